"""The amounts and slopes of all accounts at one time, and what each kind of rule does to them.

A sheet has a row for each account: its amount, then its slope by each parameter. They are numerators over one
denominator, the sheet's scale. Sharing it spares every step the search for a common divisor, which takes longer than
all the rest; and slopes, which may be far heavier than amounts, then only grow by a factor from rule to rule.

The scale is always a multiple of every parameter's denominator, so that a parameter's value can stand in a row.
"""

from slopeplan.ratios import common_multiple


class Sheet:
    """Rows are put in the place of others, never changed: sheets may share them."""

    def __init__(self, scale, rows):
        self.scale = scale
        self.rows = rows
        # The numerators of the lines of plan code that the rule before this sheet worked out.
        self.lines = []

    def put(self, account, row):
        self.rows[account] = row
        self.lines.append(row[0])


def first_sheet(plan, ratios):
    """The sheet before the first period."""
    scale = 1
    for ratio in ratios:
        scale = common_multiple(scale, ratio[1])
    rows = []
    for begin in plan.begins:
        if begin < 0:
            rows.append([0] * (1 + plan.parameters))
        else:
            rows.append(parameter_row(scale, plan.parameters, begin, ratios[begin]))
    return Sheet(scale, rows)


def parameter_row(scale, parameters, p, ratio):
    """The value of p, and its slopes: 1 by itself, 0 by the others."""
    row = [0] * (1 + parameters)
    row[0] = ratio[0] * (scale // ratio[1])
    row[1 + p] = scale
    return row


def times(row, factor):
    return [factor * number for number in row]


def plus(row, other):
    return [left + right for left, right in zip(row, other)]


def minus(row, other):
    return [left - right for left, right in zip(row, other)]


def product(row, p, ratio):
    """The row of an amount times p's value, over the old scale times the value's denominator."""
    found = times(row, ratio[0])
    found[1 + p] += row[0] * ratio[1]
    return found


def quotient(row, p, ratio):
    """The row of an amount over p's value, over the old scale times the value's squared numerator."""
    found = times(row, ratio[0] * ratio[1])
    found[1 + p] -= row[0] * ratio[1] * ratio[1]
    return found


def stretched(sheet, factor):
    """The same sheet over factor times the scale."""
    if factor == 1:
        return Sheet(sheet.scale, list(sheet.rows))
    return Sheet(sheet.scale * factor, [times(row, factor) for row in sheet.rows])


def value_row(sheet, rule, ratio):
    return parameter_row(sheet.scale, len(sheet.rows[rule.a]) - 1, rule.p, ratio)


def grow(sheet, rule, ratio):
    # a times q is no line of grow's code: only what a becomes is told to the sheet.
    grown = product(sheet.rows[rule.a], rule.p, ratio)
    after = stretched(sheet, ratio[1])
    after.put(rule.a, plus(after.rows[rule.a], grown))
    return after


def pay(sheet, rule, ratio):
    after = stretched(sheet, 1)
    after.put(rule.a, minus(after.rows[rule.a], value_row(sheet, rule, ratio)))
    return after


def move(sheet, rule, ratio):
    moved = value_row(sheet, rule, ratio)
    after = stretched(sheet, 1)
    after.put(rule.a, minus(after.rows[rule.a], moved))
    after.put(rule.b, plus(after.rows[rule.b], moved))
    return after


def share(sheet, rule, ratio):
    shared = product(sheet.rows[rule.a], rule.p, ratio)
    after = stretched(sheet, ratio[1])
    after.lines.append(shared[0])
    after.put(rule.a, minus(after.rows[rule.a], shared))
    after.put(rule.b, plus(after.rows[rule.b], shared))
    return after


def pull(sheet, rule, ratio):
    pulled = product(sheet.rows[rule.b], rule.p, ratio)
    after = stretched(sheet, ratio[1])
    after.lines.append(pulled[0])
    after.put(rule.a, plus(after.rows[rule.a], pulled))
    return after


def over(sheet, rule, ratio):
    divided = quotient(sheet.rows[rule.a], rule.p, ratio)
    after = stretched(sheet, ratio[0] * ratio[0])
    after.put(rule.a, divided)
    return after


# In the order of the kinds' numbers.
KINDS = (grow, pay, move, share, pull, over)


def after_rule(sheet, rule, ratio):
    """The sheet that a rule leaves; ratio is the value of its parameter, not 0 in the kind over."""
    work = KINDS[rule.kind]
    return work(sheet, rule, ratio)
