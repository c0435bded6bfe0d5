"""The amounts and slopes of all accounts at one time, and what each kind of rule does to them.

A sheet has a row for each account: its amount, then its slope by each parameter; or its amount alone, where slopes are
not asked for. They are numerators over one denominator, the sheet's scale, but for the slopes by p: these are over the
scale times p's reserve. Sharing the scale spares every step the search for a common divisor, which takes longer than
all the rest; and slopes, which may be far heavier than amounts, then only grow by a factor from rule to rule.

The reserve of p is the numerator of its value without the sign, or 1 for 0. An amount that was divided by q so many
times has q's numerator as many times in its denominator, its slope by p just once more: the reserve is that once.

The scale is always a multiple of every parameter's denominator, so that a parameter's value can stand in a row.
"""

from slopeplan.ratios import common_denominator
from slopeplan.scales import Scale


class Sheet:
    """Rows are put in the place of others, never changed: sheets may share them."""

    def __init__(self, ratios, scale, rows):
        self.ratios = ratios
        self.scale = scale
        self.rows = rows
        # The numerators of the lines of plan code that the rule before this sheet worked out.
        self.lines = []

    def put(self, account, row):
        self.rows[account] = row
        self.lines.append(row[0])

    def amount(self, a):
        return self.scale.lowest_terms(self.rows[a][0])

    def slope(self, a, p):
        return self.scale.stretched(reserve(self.ratios[p])).lowest_terms(self.rows[a][1 + p])

    def total(self):
        """The sum of all amounts."""
        return self.scale.lowest_terms(sum([row[0] for row in self.rows]))

    def pulled(self, p, weights):
        """The slope by p of the sum of all amounts, each times its weight."""
        slopes = [row[1 + p] for row in self.rows]
        return weighted(self.scale.stretched(reserve(self.ratios[p])), slopes, weights)

    def guess(self, a, steps):
        """What the slopes tell of a's amount where each parameter's value is a step away."""
        weights = [(1, 1)]
        for step, ratio in zip(steps, self.ratios):
            weights.append((step[0], step[1] * reserve(ratio)))
        return weighted(self.scale, self.rows[a], weights)


def weighted(scale, numbers, weights):
    """The sum of numbers over the scale, each times its weight."""
    shared = common_denominator(weights)
    found = 0
    for number, ratio in zip(numbers, weights):
        found += number * ratio[0] * (shared // ratio[1])
    return scale.stretched(shared).lowest_terms(found)


def reserve(ratio):
    return max(1, abs(ratio[0]))


def first_sheet(plan, ratios, has_slopes):
    """The sheet before the first period."""
    denominator = common_denominator(ratios)
    width = 1 + plan.parameters if has_slopes else 1
    sheet = Sheet(ratios, Scale(denominator, {denominator: 1}), [[0] * width] * plan.accounts)
    for account, begin in enumerate(plan.begins):
        if begin >= 0:
            sheet.rows[account] = value_row(sheet, begin, width)
    return sheet


def value_row(sheet, p, width):
    """The value of p, and its slopes: 1 by itself, 0 by the others."""
    ratio = sheet.ratios[p]
    row = [0] * width
    row[0] = ratio[0] * (sheet.scale.whole // ratio[1])
    if width > 1:
        row[1 + p] = sheet.scale.whole * reserve(ratio)
    return row


def times(row, factor):
    return [factor * number for number in row]


def plus(row, other):
    return [left + right for left, right in zip(row, other)]


def minus(row, other):
    return [left - right for left, right in zip(row, other)]


def product(row, p, ratio):
    """The row of an amount times p's value, over the old scale times the value's denominator."""
    found = times(row, ratio[0])
    if len(row) > 1:
        found[1 + p] += row[0] * ratio[1] * reserve(ratio)
    return found


def quotient(row, p, ratio):
    """The row of an amount over p's value, over the old scale times the value's numerator without its sign."""
    found = times(row, -ratio[1] if ratio[0] < 0 else ratio[1])
    if len(row) > 1:
        found[1 + p] -= row[0] * ratio[1] * ratio[1]
    return found


def stretched(sheet, factor):
    """The same sheet over factor times the scale."""
    if factor == 1:
        return Sheet(sheet.ratios, sheet.scale, list(sheet.rows))
    return Sheet(sheet.ratios, sheet.scale.stretched(factor), [times(row, factor) for row in sheet.rows])


def grow(sheet, rule, ratio):
    # a times q is no line of grow's code: only what a becomes is told to the sheet.
    grown = product(sheet.rows[rule.a], rule.p, ratio)
    after = stretched(sheet, ratio[1])
    after.put(rule.a, plus(after.rows[rule.a], grown))
    return after


def pay(sheet, rule, ratio):
    paid = value_row(sheet, rule.p, len(sheet.rows[rule.a]))
    after = stretched(sheet, 1)
    after.put(rule.a, minus(after.rows[rule.a], paid))
    return after


def move(sheet, rule, ratio):
    moved = value_row(sheet, rule.p, len(sheet.rows[rule.a]))
    after = stretched(sheet, 1)
    after.put(rule.a, minus(after.rows[rule.a], moved))
    after.put(rule.b, plus(after.rows[rule.b], moved))
    return after


def share(sheet, rule, ratio):
    shared = product(sheet.rows[rule.a], rule.p, ratio)
    after = stretched(sheet, ratio[1])
    after.lines.append(shared[0])
    after.put(rule.a, minus(after.rows[rule.a], shared))
    after.put(rule.b, plus(after.rows[rule.b], shared))
    return after


def pull(sheet, rule, ratio):
    pulled = product(sheet.rows[rule.b], rule.p, ratio)
    after = stretched(sheet, ratio[1])
    after.lines.append(pulled[0])
    after.put(rule.a, plus(after.rows[rule.a], pulled))
    return after


def over(sheet, rule, ratio):
    divided = quotient(sheet.rows[rule.a], rule.p, ratio)
    after = stretched(sheet, abs(ratio[0]))
    after.put(rule.a, divided)
    return after


# In the order of the kinds' numbers.
KINDS = (grow, pay, move, share, pull, over)


def after_rule(sheet, rule):
    """The sheet that a rule leaves; the value of its parameter is not 0 in the kind over."""
    work = KINDS[rule.kind]
    return work(sheet, rule, sheet.ratios[rule.p])
