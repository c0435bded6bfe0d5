"""A plan run at some values, period by period."""

from slopeplan.plans import OVER
from slopeplan.sheets import after_rule, first_sheet

DIVISION_BY_ZERO = 1
TOO_HEAVY = 2
LINE_WEIGHT = 4000


class Course:
    """Goes on only as far as it is asked, and keeps what it has: the code of t periods begins all longer ones."""

    def __init__(self, plan, ratios, has_slopes):
        self.plan_rules = plan.rules
        self.ratios = ratios
        # The sheets before the first period and after each that is done.
        self.sheets = [first_sheet(plan, ratios, has_slopes)]
        # The first fault as period, place and number; empty while there is none.
        self.first_fault = []

    def fault_within(self, t):
        """The first fault of t periods, or an empty list."""
        while len(self.sheets) <= t and not self.first_fault:
            self.go_on()
        if self.first_fault and self.first_fault[0] <= t:
            return list(self.first_fault)
        return []

    def go_on(self):
        """Does one more period, or finds its fault."""
        period = len(self.sheets)
        sheet = self.sheets[period - 1]
        for place, rule in enumerate(self.plan_rules, start=1):
            if rule.kind == OVER and self.ratios[rule.p][0] == 0:
                self.first_fault = [period, place, DIVISION_BY_ZERO]
                return
            sheet = after_rule(sheet, rule)
            if has_heavy_line(sheet):
                self.first_fault = [period, place, TOO_HEAVY]
                return
        self.sheets.append(sheet)

    def after(self, t):
        """The sheet after t periods, which must have been found to be without a fault."""
        return self.sheets[t]


def has_heavy_line(sheet):
    # The other lines, inputs and constants and 1 plus an input, are light: no value that is tried weighs above 1500.
    return any([sheet.scale.is_heavy(line, LINE_WEIGHT) for line in sheet.lines])
