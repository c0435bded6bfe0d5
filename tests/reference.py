"""The document's words done as plainly as can be: line code, worked out line by line with Python's fractions."""

from fractions import Fraction

LINE_WEIGHT = 4000
TOLD_WEIGHT = 1500


def weight(value):
    return abs(value.numerator).bit_length() + value.denominator.bit_length()


class Code:
    """The plan code of t periods. Each line is a kind and two numbers; wheres has each line's period and place."""

    def __init__(self, parameters, begins, rules, t):
        self.lines = [("input", p, 0) for p in range(parameters)]
        self.zero = self.add("constant", 0, 0)
        self.one = self.add("constant", 1, 0)
        self.wheres = [(0, 0)] * len(self.lines)
        self.now = [self.zero if begin == -1 else begin for begin in begins]
        self.history = [list(self.now)]
        for period in range(1, t + 1):
            for place, rule in enumerate(rules, start=1):
                self.do(*rule)
                self.wheres += [(period, place)] * (len(self.lines) - len(self.wheres))
            self.history.append(list(self.now))

    def add(self, kind, i, j):
        self.lines.append((kind, i, j))
        return len(self.lines) - 1

    def do(self, kind, a, b, p):
        now = self.now
        if kind == 0:
            now[a] = self.add("product", now[a], self.add("sum", self.one, p))
        elif kind == 1:
            now[a] = self.add("difference", now[a], p)
        elif kind == 2:
            now[a] = self.add("difference", now[a], p)
            now[b] = self.add("sum", now[b], p)
        elif kind == 3:
            part = self.add("product", now[a], p)
            now[a] = self.add("difference", now[a], part)
            now[b] = self.add("sum", now[b], part)
        elif kind == 4:
            now[a] = self.add("sum", now[a], self.add("product", now[b], p))
        else:
            now[a] = self.add("quotient", now[a], p)


def work_out(code, values):
    """The lines' values; and the first fault as period, place and number, or None."""
    found = []
    for line, where in zip(code.lines, code.wheres):
        kind, i, j = line
        if kind == "quotient" and found[j] == 0:
            return found, [*where, 1]
        found.append(one_value(kind, i, j, values, found))
        if weight(found[-1]) > LINE_WEIGHT:
            return found, [*where, 2]
    return found, None


def one_value(kind, i, j, values, found):
    if kind == "input":
        return values[i]
    if kind == "constant":
        return Fraction(i)
    if kind == "sum":
        return found[i] + found[j]
    if kind == "difference":
        return found[i] - found[j]
    if kind == "product":
        return found[i] * found[j]
    return found[i] / found[j]


def slopes_by(code, found, p):
    """Every line's slope by the parameter p."""
    slopes = []
    for kind, i, j in code.lines:
        if kind == "input":
            slopes.append(Fraction(1 if i == p else 0))
        elif kind == "constant":
            slopes.append(Fraction(0))
        elif kind == "sum":
            slopes.append(slopes[i] + slopes[j])
        elif kind == "difference":
            slopes.append(slopes[i] - slopes[j])
        elif kind == "product":
            slopes.append(slopes[i] * found[j] + found[i] * slopes[j])
        else:
            slopes.append((slopes[i] * found[j] - found[i] * slopes[j]) / found[j] ** 2)
    return slopes


def told(head, fractions):
    if any(weight(value) > TOLD_WEIGHT for value in fractions):
        return [-6]
    return head + [number for value in fractions for number in (value.numerator, value.denominator)]


def expected(parameters, begins, rules, values, t):
    """What fault, run, path of each account, slopes of each account and table answer for a good plan and values."""
    code = Code(parameters, begins, rules, t)
    found, fault = work_out(code, values)
    accounts = len(begins)
    if fault:
        return [[1, *fault]] + [[-5]] * (2 + 2 * accounts)
    by = [slopes_by(code, found, p) for p in range(parameters)]
    rows = [[by[p][code.now[a]] for p in range(parameters)] for a in range(accounts)]
    answers = [[0], told([accounts], [found[line] for line in code.now])]
    for a in range(accounts):
        answers.append(told([t + 1], [found[lines[a]] for lines in code.history]))
        answers.append(told([parameters], rows[a]))
    answers.append(told([accounts, parameters], [cell for row in rows for cell in row]))
    return answers
