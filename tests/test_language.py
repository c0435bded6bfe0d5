"""What can be seen by a walk through the code of the rules in LANGUAGE.md."""

import ast
import builtins
import pathlib
import re
import unittest

PACKAGE = pathlib.Path(__file__).resolve().parent.parent / "slopeplan"
FILES = sorted(path for path in PACKAGE.rglob("*") if "__pycache__" not in path.parts and path.is_file())

NODES = (
    ast.Module, ast.ImportFrom, ast.alias, ast.FunctionDef, ast.arguments, ast.arg, ast.ClassDef, ast.Return,
    ast.Assign, ast.AugAssign, ast.For, ast.While, ast.If, ast.Pass, ast.Break, ast.Continue, ast.Expr, ast.Raise,
    ast.BoolOp, ast.BinOp, ast.UnaryOp, ast.IfExp, ast.Dict, ast.ListComp, ast.comprehension, ast.Compare, ast.Call,
    ast.Constant, ast.Attribute, ast.Subscript, ast.Slice, ast.Name, ast.List, ast.Tuple, ast.Lambda,
    ast.expr_context, ast.boolop, ast.unaryop, ast.cmpop, ast.keyword,
    ast.Add, ast.Sub, ast.Mult, ast.FloorDiv, ast.Mod,
)
OWN_NAMES = set("len range enumerate zip min max sum abs sorted reversed int str bool list tuple dict isinstance "
                "any all divmod".split())
OWN_METHODS = set("append extend bit_length copy get index insert items keys pop".split())
LOST_WORDS = re.compile(r"\b(type|typing|typing_extensions|enum|Enum|IntEnum|StrEnum|Flag|IntFlag|Generic|Protocol|ABC|"
                        r"ABCMeta|namedtuple|NamedTuple|TypedDict|TYPE_CHECKING|abstractmethod)\b|dataclass|overload|"
                        r"contextmanager")
LOST_NAMES = set("register mro elements open input version_info with_traceback add_note format format_map super "
                 "getattr setattr vars id eval exec".split())


class LanguageTest(unittest.TestCase):
    def each(self):
        found = []
        for path in FILES:
            text = path.read_text(encoding="utf-8")
            found.append((path, text, ast.parse(text)))
        return found

    def test_files(self):
        self.assertIn(PACKAGE / "__init__.py", FILES)
        self.assertIn(PACKAGE / "accounts.py", FILES)
        for path in FILES:
            self.assertRegex(path.name, r"^[a-z0-9_]+\.py$")
            self.assertFalse(path.stem.startswith("test"))
            self.assertNotIn(path.stem, dir(builtins))

    def test_signs_and_sizes(self):
        for path, text, tree in self.each():
            self.assertRegex(text, r"\A[ -~\n]*\Z")
            rows = text.split("\n")
            self.assertLessEqual(len(rows), 400)
            self.assertLessEqual(max(len(row) for row in rows), 120)
            for node in ast.walk(tree):
                if isinstance(node, ast.FunctionDef):
                    self.assertLessEqual(node.end_lineno - node.lineno + 1, 40)

    def test_words(self):
        for path, text, tree in self.each():
            self.assertIsNone(LOST_WORDS.search(text))

    def test_nodes(self):
        for path, text, tree in self.each():
            for node in ast.walk(tree):
                self.assertIsInstance(node, NODES, f"{path.name}: {ast.dump(node)}")
                if isinstance(node, ast.Assign):
                    self.assertEqual(len(node.targets), 1)
                    self.assertNotIsInstance(node.targets[0], ast.Tuple)
                if isinstance(node, (ast.For, ast.While)):
                    self.assertEqual(node.orelse, [])
                if isinstance(node, ast.Constant):
                    self.assertIsInstance(node.value, (int, str, type(None)))
                if isinstance(node, ast.Compare) and any(isinstance(op, (ast.Is, ast.IsNot)) for op in node.ops):
                    self.assertIsInstance(node.comparators[0], ast.Constant)
                if isinstance(node, ast.ListComp):
                    self.assertEqual(len(node.generators), 1)
                if isinstance(node, (ast.FunctionDef, ast.ClassDef)):
                    self.assertEqual(node.decorator_list, [])

    def test_imports(self):
        drawn = {}
        for path, text, tree in self.each():
            drawn[path.stem] = []
            for node in ast.walk(tree):
                if isinstance(node, ast.ImportFrom):
                    self.assertIn(node, tree.body)
                    self.assertEqual(node.level, 0)
                    self.assertTrue(node.module.startswith("slopeplan."))
                    self.assertTrue(all(alias.name != "*" for alias in node.names))
                    drawn[path.stem].append(node.module.split(".")[1])
        while drawn:
            free = [name for name in drawn if not any(other in drawn for other in drawn[name])]
            self.assertTrue(free, "files draw from one another")
            for name in free:
                drawn.pop(name)

    def test_names(self):
        for path, text, tree in self.each():
            bound = bound_names(tree)
            for name in bound:
                self.assertRegex(name, r"^[A-Za-z][A-Za-z0-9_]*$|^__init__$")
                self.assertNotIn(name, dir(builtins))
                self.assertNotIn(name, LOST_NAMES)
            for node in ast.walk(tree):
                if isinstance(node, ast.Name):
                    self.assertTrue(node.id in bound or node.id in OWN_NAMES, f"{path.name}: {node.id}")

    def test_names_at_the_top_are_bound_once_and_not_hidden(self):
        for path, text, tree in self.each():
            top = []
            guarded = set()
            for node in tree.body:
                if isinstance(node, ast.ImportFrom):
                    top.extend(alias.name for alias in node.names)
                    guarded.update(alias.name for alias in node.names)
                elif isinstance(node, (ast.FunctionDef, ast.ClassDef)):
                    top.append(node.name)
                    guarded.update([node.name] if isinstance(node, ast.ClassDef) else [])
                elif isinstance(node, ast.Assign):
                    top.append(node.targets[0].id)
            self.assertEqual(len(top), len(set(top)))
            for node in ast.walk(tree):
                if isinstance(node, ast.FunctionDef):
                    inner = {part.arg for part in ast.walk(node) if isinstance(part, ast.arg)}
                    inner |= {part.id for part in ast.walk(node)
                              if isinstance(part, ast.Name) and isinstance(part.ctx, ast.Store)}
                    self.assertEqual(inner & guarded, set(), path.name)

    def test_methods_and_values_have_different_names(self):
        methods = set()
        values = set()
        used = set()
        for path, text, tree in self.each():
            for node in ast.walk(tree):
                if isinstance(node, ast.ClassDef):
                    methods.update(part.name for part in node.body if isinstance(part, ast.FunctionDef))
                if isinstance(node, ast.Attribute):
                    (values if isinstance(node.ctx, ast.Store) else used).add(node.attr)
        self.assertEqual(methods & values, set())
        self.assertEqual(used - methods - values - OWN_METHODS, set())
        for kind in (str, int, list, dict, set, bytes):
            self.assertEqual((methods - {"__init__"} | values) & set(dir(kind)), set())


def bound_names(tree):
    found = set()
    for node in ast.walk(tree):
        if isinstance(node, (ast.FunctionDef, ast.ClassDef)):
            found.add(node.name)
        elif isinstance(node, ast.arg):
            found.add(node.arg)
        elif isinstance(node, ast.Name) and isinstance(node.ctx, ast.Store):
            found.add(node.id)
        elif isinstance(node, ast.alias):
            found.add(node.asname or node.name)
    return found


if __name__ == "__main__":
    unittest.main()
