"""The document's words done as plainly as can be: line code, worked out line by line with Python's fractions."""

from fractions import Fraction

# In the order of their numbers in what code answers.
KINDS = ("input", "constant", "sum", "difference", "product", "quotient")
LINE_WEIGHT = 4000
TOLD_WEIGHT = 1500


def weight(value):
    return abs(value.numerator).bit_length() + value.denominator.bit_length()


class Code:
    """The plan code of t periods. Each line is a kind and two numbers; wheres has each line's period and place."""

    def __init__(self, parameters, begins, rules, t):
        self.lines = [("input", p, 0) for p in range(parameters)]
        self.zero = self.add("constant", 0, 0)
        self.one = self.add("constant", 1, 0)
        self.wheres = [(0, 0)] * len(self.lines)
        self.now = [self.zero if begin == -1 else begin for begin in begins]
        self.history = [list(self.now)]
        for period in range(1, t + 1):
            for place, rule in enumerate(rules, start=1):
                self.do(*rule)
                self.wheres += [(period, place)] * (len(self.lines) - len(self.wheres))
            self.history.append(list(self.now))

    def add(self, kind, i, j):
        self.lines.append((kind, i, j))
        return len(self.lines) - 1

    def do(self, kind, a, b, p):
        now = self.now
        if kind == 0:
            now[a] = self.add("product", now[a], self.add("sum", self.one, p))
        elif kind == 1:
            now[a] = self.add("difference", now[a], p)
        elif kind == 2:
            now[a] = self.add("difference", now[a], p)
            now[b] = self.add("sum", now[b], p)
        elif kind == 3:
            part = self.add("product", now[a], p)
            now[a] = self.add("difference", now[a], part)
            now[b] = self.add("sum", now[b], part)
        elif kind == 4:
            now[a] = self.add("sum", now[a], self.add("product", now[b], p))
        else:
            now[a] = self.add("quotient", now[a], p)


def work_out(code, values):
    """The lines' values; and the first fault as period, place and number, or None."""
    found = []
    for line, where in zip(code.lines, code.wheres):
        kind, i, j = line
        if kind == "quotient" and found[j] == 0:
            return found, [*where, 1]
        found.append(one_value(kind, i, j, values, found))
        if weight(found[-1]) > LINE_WEIGHT:
            return found, [*where, 2]
    return found, None


def one_value(kind, i, j, values, found):
    if kind == "input":
        return values[i]
    if kind == "constant":
        return Fraction(i)
    if kind == "sum":
        return found[i] + found[j]
    if kind == "difference":
        return found[i] - found[j]
    if kind == "product":
        return found[i] * found[j]
    return found[i] / found[j]


def slopes_by(code, found, p):
    """Every line's slope by the parameter p."""
    slopes = []
    for kind, i, j in code.lines:
        if kind == "input":
            slopes.append(Fraction(1 if i == p else 0))
        elif kind == "constant":
            slopes.append(Fraction(0))
        elif kind == "sum":
            slopes.append(slopes[i] + slopes[j])
        elif kind == "difference":
            slopes.append(slopes[i] - slopes[j])
        elif kind == "product":
            slopes.append(slopes[i] * found[j] + found[i] * slopes[j])
        else:
            slopes.append((slopes[i] * found[j] - found[i] * slopes[j]) / found[j] ** 2)
    return slopes


def told(head, fractions):
    if any(weight(value) > TOLD_WEIGHT for value in fractions):
        return [-6]
    return head + [number for value in fractions for number in (value.numerator, value.denominator)]


def expected(parameters, begins, rules, values, t):
    """What fault, run, path of each account, slopes of each account and table answer for a good plan and values."""
    code = Code(parameters, begins, rules, t)
    found, fault = work_out(code, values)
    accounts = len(begins)
    if fault:
        return [[1, *fault]] + [[-5]] * (2 + 2 * accounts)
    by = [slopes_by(code, found, p) for p in range(parameters)]
    rows = [[by[p][code.now[a]] for p in range(parameters)] for a in range(accounts)]
    answers = [[0], told([accounts], [found[line] for line in code.now])]
    for a in range(accounts):
        answers.append(told([t + 1], [found[lines[a]] for lines in code.history]))
        answers.append(told([parameters], rows[a]))
    answers.append(told([accounts, parameters], [cell for row in rows for cell in row]))
    return answers


def told_code(code):
    """What code answers."""
    numbers = [len(code.lines)]
    for kind, i, j in code.lines:
        if kind == "input":
            numbers.extend([0, i])
        elif kind == "constant":
            numbers.extend([1, i, 1])
        else:
            numbers.extend([KINDS.index(kind), i, j])
    return numbers + code.now


class Sensitive:
    """What the calls from pull to total answer for a good plan and values."""

    def __init__(self, parameters, begins, rules, values, t):
        self.parameters = parameters
        self.values = values
        self.code = Code(parameters, begins, rules, t)
        self.found, self.fault = work_out(self.code, values)
        if not self.fault:
            by = [slopes_by(self.code, self.found, p) for p in range(parameters)]
            self.amounts = [self.found[line] for line in self.code.now]
            self.slopes = [[by[p][line] for p in range(parameters)] for line in self.code.now]

    def amount_at(self, a, values):
        """The amount of a at other values, or None where there is a fault."""
        found, fault = work_out(self.code, values)
        return None if fault else found[self.code.now[a]]

    def pull(self, weights):
        if self.fault:
            return [-5]
        pulled = [sum(weight * row[p] for weight, row in zip(weights, self.slopes)) for p in range(self.parameters)]
        return told([self.parameters], [Fraction(slope) for slope in pulled])

    def elastic(self, a, p):
        if self.fault:
            return [-5]
        if self.amounts[a] == 0:
            return [0]
        return told([1], [self.slopes[a][p] * self.values[p] / self.amounts[a]])

    def what_if(self, a, others):
        actual = self.amount_at(a, others)
        if self.fault or actual is None:
            return [-5]
        guess = self.amounts[a]
        for slope, other, value in zip(self.slopes[a], others, self.values):
            guess += slope * (other - value)
        return told([3], [actual, guess, actual - guess])

    def aim(self, a, p, target):
        if self.fault:
            return [-5]
        if self.slopes[a][p] == 0:
            return [0]
        value = self.values[p] + (target - self.amounts[a]) / self.slopes[a][p]
        amount = self.amount_at(a, self.values[:p] + [value] + self.values[p + 1:])
        if amount is None:
            return told([1], [value])
        return told([2], [value, amount])

    def first(self, a, limit):
        if self.fault:
            return [-5]
        for period, lines in enumerate(self.code.history):
            if self.found[lines[a]] < limit:
                return told([1, period], [self.found[lines[a]]])
        return [0]

    def total(self):
        return [-5] if self.fault else told([1], [sum(self.amounts)])
