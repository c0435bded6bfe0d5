"""The object that calls are made on. Each call answers a list of whole numbers; a refusal is one below 0."""

from slopeplan.courses import Course
from slopeplan.plans import Plan, RULE_LENGTH, are_begins, are_rules, read_rules
from slopeplan.ratios import lowest, read_ratios, weight

NOT_THERE = -1
WRONG_FORM = -2
NO_VALUES = -4
HAS_FAULT = -5
TOLD_TOO_HEAVY = -6
TOO_MANY_RULES = -7

MOST_ACCOUNTS = 6
MOST_PARAMETERS = 8
MOST_RULES = 10
MOST_PERIODS = 20
TOLD_WEIGHT = 1500


class Book:
    """Holds a plan, and its course at the values that are set; no course where none are."""

    def __init__(self):
        self.held = Plan(0, 0, [], [])
        self.course = None

    def plan(self, accounts, parameters, begins, rules):
        if not (1 <= accounts <= MOST_ACCOUNTS and 0 <= parameters <= MOST_PARAMETERS):
            return [NOT_THERE]
        if not (are_begins(begins, accounts, parameters) and are_rules(rules, accounts, parameters)):
            return [WRONG_FORM]
        if len(rules) > MOST_RULES * RULE_LENGTH:
            return [TOO_MANY_RULES]
        self.held = Plan(accounts, parameters, list(begins), read_rules(rules))
        self.course = None
        return [len(self.held.rules)]

    def set_values(self, numbers):
        ratios = read_ratios(numbers, self.held.parameters)
        if ratios is None:
            return [WRONG_FORM]
        self.course = Course(self.held, ratios)
        return [len(ratios)]

    def fault(self, t):
        if not is_time(t):
            return [NOT_THERE]
        if self.course is None:
            return [NO_VALUES]
        found = self.course.fault_within(t)
        return [1] + found if found else [0]

    def run(self, t):
        refused = self.refusal(is_time(t), t)
        if refused:
            return refused
        return told([self.held.accounts], self.course.amounts(t))

    def path(self, a, t):
        refused = self.refusal(self.is_account(a) and is_time(t), t)
        if refused:
            return refused
        amounts = [self.course.amounts(period)[a] for period in range(t + 1)]
        return told([len(amounts)], amounts)

    def slopes(self, a, t):
        refused = self.refusal(self.is_account(a) and is_time(t), t)
        if refused:
            return refused
        return told([self.held.parameters], self.course.slopes_of(a, t))

    def table(self, t):
        refused = self.refusal(is_time(t), t)
        if refused:
            return refused
        cells = []
        for a in range(self.held.accounts):
            cells.extend(self.course.slopes_of(a, t))
        return told([self.held.accounts, self.held.parameters], cells)

    def is_account(self, a):
        return 0 <= a < self.held.accounts

    def refusal(self, is_there, t):
        """The first refusal that is due to a call that needs t periods without a fault; empty if none is."""
        if not is_there:
            return [NOT_THERE]
        if self.course is None:
            return [NO_VALUES]
        if self.course.fault_within(t):
            return [HAS_FAULT]
        return []


def is_time(t):
    return 0 <= t <= MOST_PERIODS


def told(head, ratios):
    """The answer that has head and then the fractions in lowest terms, or the refusal where one is too heavy."""
    answer = list(head)
    for numerator, denominator in ratios:
        ratio = lowest(numerator, denominator)
        if weight(ratio) > TOLD_WEIGHT:
            return [TOLD_TOO_HEAVY]
        answer.extend(ratio)
    return answer
