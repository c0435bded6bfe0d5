"""Plans, and the form of the lists that tell them."""

GROW = 0
PAY = 1
MOVE = 2
SHARE = 3
PULL = 4
OVER = 5
LAST_KIND = 5
# grow, pay and over
KINDS_WITHOUT_B = (0, 1, 5)
RULE_LENGTH = 4


class Rule:
    def __init__(self, kind, a, b, p):
        self.kind = kind
        self.a = a
        self.b = b
        self.p = p


class Plan:
    def __init__(self, accounts, parameters, begins, rules):
        self.accounts = accounts
        self.parameters = parameters
        self.begins = begins
        self.rules = rules


def are_begins(begins, accounts, parameters):
    if len(begins) != accounts:
        return False
    return all([-1 <= begin < parameters for begin in begins])


def read_rules(numbers):
    """The rules of a list that is as long as some rules are, whatever its numbers."""
    rules = []
    for place in range(0, len(numbers), RULE_LENGTH):
        rules.append(Rule(numbers[place], numbers[place + 1], numbers[place + 2], numbers[place + 3]))
    return rules


def is_rule(rule, accounts, parameters):
    if not 0 <= rule.kind <= LAST_KIND:
        return False
    if rule.kind in KINDS_WITHOUT_B and rule.b != 0:
        return False
    return 0 <= rule.a < accounts and 0 <= rule.b < accounts and 0 <= rule.p < parameters


def are_rules(numbers, accounts, parameters):
    if len(numbers) % RULE_LENGTH != 0:
        return False
    return all([is_rule(rule, accounts, parameters) for rule in read_rules(numbers)])
