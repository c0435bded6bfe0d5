"""Plan code: what the document's line code is for a plan, line by line."""

from slopeplan.plans import GROW, MOVE, OVER, PAY, PULL, SHARE

INPUT = 0
CONSTANT = 1
SUM = 2
DIFFERENCE = 3
PRODUCT = 4
QUOTIENT = 5


class LineCode:
    """The lines so far in number rows, and the line of each account."""

    def __init__(self, plan):
        # The line of a parameter has the parameter's number.
        self.zero = plan.parameters
        self.one = plan.parameters + 1
        self.how_many = plan.parameters + 2
        self.numbers = []
        for p in range(plan.parameters):
            self.numbers.extend([INPUT, p])
        self.numbers.extend([CONSTANT, 0, 1, CONSTANT, 1, 1])
        self.account_lines = [self.zero if begin < 0 else begin for begin in plan.begins]

    def write(self, operation, i, j):
        """Adds a line, and answers its number."""
        self.numbers.extend([operation, i, j])
        self.how_many += 1
        return self.how_many - 1

    def write_change(self, account, operation, line):
        """Adds the line of what the account becomes."""
        self.account_lines[account] = self.write(operation, self.account_lines[account], line)

    def write_rule(self, rule):
        if rule.kind == GROW:
            self.write_change(rule.a, PRODUCT, self.write(SUM, self.one, rule.p))
        elif rule.kind == PAY:
            self.write_change(rule.a, DIFFERENCE, rule.p)
        elif rule.kind == MOVE:
            self.write_change(rule.a, DIFFERENCE, rule.p)
            self.write_change(rule.b, SUM, rule.p)
        elif rule.kind == SHARE:
            part = self.write(PRODUCT, self.account_lines[rule.a], rule.p)
            self.write_change(rule.a, DIFFERENCE, part)
            self.write_change(rule.b, SUM, part)
        elif rule.kind == PULL:
            part = self.write(PRODUCT, self.account_lines[rule.b], rule.p)
            self.write_change(rule.a, SUM, part)
        elif rule.kind == OVER:
            self.write_change(rule.a, QUOTIENT, rule.p)


def line_code(plan, t):
    """How many lines, the lines, the accounts' lines."""
    code = LineCode(plan)
    for period in range(t):
        for rule in plan.rules:
            code.write_rule(rule)
    return [code.how_many] + code.numbers + code.account_lines
