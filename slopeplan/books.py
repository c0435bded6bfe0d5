"""The object that calls are made on. Each call answers a list of whole numbers; a refusal is one below 0."""

from slopeplan.courses import Course
from slopeplan.linecode import line_code
from slopeplan.plans import Plan, RULE_LENGTH, are_begins, are_rules, read_rules
from slopeplan.ratios import added, divided, is_below, less, multiplied, read_ratios, weight

NOT_THERE = -1
WRONG_FORM = -2
NO_VALUES = -4
HAS_FAULT = -5
TOLD_TOO_HEAVY = -6
TOO_MANY_RULES = -7

MOST_ACCOUNTS = 6
MOST_PARAMETERS = 8
MOST_RULES = 10
MOST_PERIODS = 20
TOLD_WEIGHT = 1500


class Book:
    """Holds a plan, and its course at the values that are set; no course where none are."""

    def __init__(self):
        self.held = Plan(0, 0, [], [])
        self.course = None

    def plan(self, accounts, parameters, begins, rules):
        if not (1 <= accounts <= MOST_ACCOUNTS and 0 <= parameters <= MOST_PARAMETERS):
            return [NOT_THERE]
        if not (are_begins(begins, accounts, parameters) and are_rules(rules, accounts, parameters)):
            return [WRONG_FORM]
        if len(rules) > MOST_RULES * RULE_LENGTH:
            return [TOO_MANY_RULES]
        self.held = Plan(accounts, parameters, list(begins), read_rules(rules))
        self.course = None
        return [len(self.held.rules)]

    def set_values(self, numbers):
        ratios = read_ratios(numbers, self.held.parameters)
        if ratios is None:
            return [WRONG_FORM]
        self.course = Course(self.held, ratios, True)
        return [len(ratios)]

    def fault(self, t):
        if not is_time(t):
            return [NOT_THERE]
        if self.course is None:
            return [NO_VALUES]
        found = self.course.fault_within(t)
        return [1] + found if found else [0]

    def run(self, t):
        refused = self.refusal(is_time(t), True, t)
        if refused:
            return refused
        sheet = self.course.after(t)
        return told([self.held.accounts], [sheet.amount(a) for a in range(self.held.accounts)])

    def path(self, a, t):
        refused = self.refusal(self.is_account(a) and is_time(t), True, t)
        if refused:
            return refused
        amounts = [self.course.after(period).amount(a) for period in range(t + 1)]
        return told([len(amounts)], amounts)

    def slopes(self, a, t):
        refused = self.refusal(self.is_account(a) and is_time(t), True, t)
        if refused:
            return refused
        sheet = self.course.after(t)
        return told([self.held.parameters], [sheet.slope(a, p) for p in range(self.held.parameters)])

    def table(self, t):
        refused = self.refusal(is_time(t), True, t)
        if refused:
            return refused
        sheet = self.course.after(t)
        cells = []
        for a in range(self.held.accounts):
            cells.extend([sheet.slope(a, p) for p in range(self.held.parameters)])
        return told([self.held.accounts, self.held.parameters], cells)

    def pull(self, t, numbers):
        weights = read_ratios(numbers, self.held.accounts)
        refused = self.refusal(is_time(t), weights is not None, t)
        if refused:
            return refused
        sheet = self.course.after(t)
        slopes = [sheet.pulled(p, weights) for p in range(self.held.parameters)]
        return told([self.held.parameters], slopes)

    def elastic(self, a, p, t):
        refused = self.refusal(self.is_account(a) and self.is_parameter(p) and is_time(t), True, t)
        if refused:
            return refused
        sheet = self.course.after(t)
        amount = sheet.amount(a)
        if amount[0] == 0:
            return [0]
        part = multiplied(sheet.slope(a, p), self.course.ratios[p])
        return told([1], [divided(part, amount)])

    def what_if(self, a, t, numbers):
        others = read_ratios(numbers, self.held.parameters)
        refused = self.refusal(self.is_account(a) and is_time(t), others is not None, t)
        if refused:
            return refused
        trial = Course(self.held, others, False)
        if trial.fault_within(t):
            return [HAS_FAULT]
        actual = trial.after(t).amount(a)
        steps = [less(other, ratio) for other, ratio in zip(others, self.course.ratios)]
        guess = self.course.after(t).guess(a, steps)
        return told([3], [actual, guess, less(actual, guess)])

    def aim(self, a, p, t, numbers):
        goals = read_ratios(numbers, 1)
        is_there = self.is_account(a) and self.is_parameter(p) and is_time(t)
        refused = self.refusal(is_there, goals is not None, t)
        if refused:
            return refused
        sheet = self.course.after(t)
        slope = sheet.slope(a, p)
        if slope[0] == 0:
            return [0]
        step = divided(less(goals[0], sheet.amount(a)), slope)
        found = added(self.course.ratios[p], step)
        # Too heavy to be told, it is too heavy to be tried.
        if weight(found) > TOLD_WEIGHT:
            return [TOLD_TOO_HEAVY]
        trial = self.trial_with(p, found)
        if trial.fault_within(t):
            return told([1], [found])
        return told([2], [found, trial.after(t).amount(a)])

    def first(self, a, t, numbers):
        limits = read_ratios(numbers, 1)
        refused = self.refusal(self.is_account(a) and is_time(t), limits is not None, t)
        if refused:
            return refused
        for period in range(t + 1):
            amount = self.course.after(period).amount(a)
            if is_below(amount, limits[0]):
                return told([1, period], [amount])
        return [0]

    def total(self, t):
        refused = self.refusal(is_time(t), True, t)
        if refused:
            return refused
        return told([1], [self.course.after(t).total()])

    def code(self, t):
        if not is_time(t):
            return [NOT_THERE]
        return line_code(self.held, t)

    def is_account(self, a):
        return 0 <= a < self.held.accounts

    def is_parameter(self, p):
        return 0 <= p < self.held.parameters

    def trial_with(self, p, ratio):
        """The course at the set values, but for p's."""
        ratios = list(self.course.ratios)
        ratios[p] = ratio
        return Course(self.held, ratios, False)

    def refusal(self, is_there, is_formed, t):
        """The first refusal that is due to a call that needs t periods without a fault; empty if none is."""
        if not is_there:
            return [NOT_THERE]
        if not is_formed:
            return [WRONG_FORM]
        if self.course is None:
            return [NO_VALUES]
        if self.course.fault_within(t):
            return [HAS_FAULT]
        return []


def is_time(t):
    return 0 <= t <= MOST_PERIODS


def told(head, ratios):
    """The answer that has head and then the fractions, or the refusal where one is too heavy."""
    answer = list(head)
    for ratio in ratios:
        if weight(ratio) > TOLD_WEIGHT:
            return [TOLD_TOO_HEAVY]
        answer.extend(ratio)
    return answer
