"""How the tests tell calls and read answers."""

from slopeplan.accounts import answers

GREAT = 10 ** 18

GROW, PAY, MOVE, SHARE, PULL, OVER = range(6)


def plan(a, p, begins, rules):
    """rules is a list of fours, or of plain numbers where a wrong form is to be handed in."""
    numbers = []
    for rule in rules:
        if isinstance(rule, int):
            numbers.append(rule)
        else:
            numbers.extend(rule)
    return [0, a, p, len(begins), *begins, len(numbers), *numbers]


def put(*numbers):
    return [1, len(numbers), *numbers]


def fault(t):
    return [2, t]


def run(t):
    return [3, t]


def path(a, t):
    return [4, a, t]


def slopes(a, t):
    return [5, a, t]


def table(t):
    return [6, t]


def pull(t, *weights):
    return [7, t, len(weights), *weights]


def elastic(a, p, t):
    return [8, a, p, t]


def what_if(a, t, *values):
    return [9, a, t, len(values), *values]


def aim(a, p, t, *target):
    return [10, a, p, t, len(target), *target]


def first(a, t, *limit):
    return [11, a, t, len(limit), *limit]


def total(t):
    return [12, t]


def code(t):
    return [13, t]


def split(numbers):
    """The answers of single calls, from one list of all."""
    found = []
    place = 0
    while place < len(numbers):
        count = numbers[place]
        found.append(numbers[place + 1:place + 1 + count])
        place += 1 + count
    assert place == len(numbers)
    return found


def ask(*calls):
    """The answers of the calls, made one behind another on one new object."""
    line = [number for call in calls for number in call]
    before = list(line)
    told = answers(line)
    assert line == before, "what is handed in was changed"
    assert isinstance(told, list)
    assert all(isinstance(number, int) and not isinstance(number, bool) for number in told)
    found = split(told)
    assert len(found) == len(calls)
    return found


def last(*calls):
    return ask(*calls)[-1]


def powers(b, rules=(), numbers=(), accounts=1, sign=1):
    """A plan and its values: account 0 is sign * 2 ** (199 * t + b) after t periods, and grows in the rules 1 to 4.

    The others begin with 0. More rules come behind; their parameters are 5 and so on, with the numbers as values.
    """
    growing = [(GROW, 0, 0, p) for p in (1, 2, 3, 4)]
    told = [sign * 2 ** b, 1]
    for exponent in (59, 59, 59, 22):
        told.extend([2 ** exponent - 1, 1])
    told.extend(numbers)
    begins = [0] + [-1] * (accounts - 1)
    return [plan(accounts, len(told) // 2, begins, growing + list(rules)), put(*told)]


def shifted(count):
    """One account that is 2 ** count after five periods; count is a little below 1500."""
    rest = count - 5 * 5 * 59
    rules = [(GROW, 0, 0, 1)] * 5
    return [plan(1, 2, [0], rules), put(2 ** rest, 1, 2 ** 59 - 1, 1)]
