"""Promise 10: first."""

import unittest

from asking import (GREAT, GROW, MOVE, OVER, PAY, PULL, SHARE, ask, fault, first, last, path, plan, powers, put, run)

LOAN = [plan(1, 3, [0], [(GROW, 0, 0, 1), (PAY, 0, 0, 2)]), put(1000, 1, 1, 10, 300, 1)]


def one_rule(kind, a, b):
    """Two accounts, 5/2 and 7/3, and one rule with 3/4: the first time that each is below 2, in five periods."""
    calls = [plan(2, 3, [0, 1], [(kind, a, b, 2)]), put(5, 2, 7, 3, 3, 4)]
    return ask(*calls, first(0, 5, 2, 1), first(1, 5, 2, 1))[2:]


class FirstTest(unittest.TestCase):
    def test_example(self):
        self.assertEqual(last(*LOAN, first(0, 2, 900, 1)), [1, 1, 800, 1])

    def test_below_at_0_already(self):
        found = ask(*LOAN, first(0, 2, 1001, 1), first(0, 0, 10001, 10), first(0, 20, GREAT, 1))[2:]
        self.assertEqual(found, [[1, 0, 1000, 1]] * 3)

    def test_only_after_a_later_period(self):
        # 1000, 800, 580, 338, 71.8, and then below 0.
        found = ask(*LOAN, first(0, 20, 600, 1), first(0, 20, 72, 1), first(0, 20, 0, 1), first(0, 4, 72, 1),
                    first(0, 3, 72, 1), first(0, 4, 0, 1), first(0, 5, 0, 1))[2:]
        below = [1, 5, -11051, 50]
        self.assertEqual(found, [[1, 2, 580, 1], [1, 4, 359, 5], below, [1, 4, 359, 5], [0], [0], below])

    def test_equal_is_not_below(self):
        found = ask(*LOAN, first(0, 0, 1000, 1), first(0, 1, 800, 1), first(0, 2, 800, 1), first(0, 2, 580, 1),
                    first(0, 4, 718, 10), first(0, 4, 719, 10))[2:]
        self.assertEqual(found, [[0], [0], [1, 2, 580, 1], [0], [0], [1, 4, 359, 5]])

    def test_never(self):
        calls = [plan(2, 1, [0, -1], [(PULL, 0, 0, 0)]), put(3, 1)]
        found = ask(*calls, first(0, 20, 3, 1), first(1, 20, 0, 1), first(1, 20, -1, GREAT), first(0, 20, -GREAT, 1))
        self.assertEqual(found[2:], [[0]] * 4)

    def test_the_last_period_counts(self):
        calls = [plan(1, 2, [0], [(PAY, 0, 0, 1)]), put(20, 1, 1, 1)]
        found = ask(*calls, first(0, 20, 1, 1), first(0, 19, 1, 1), first(0, 20, 1, 2), first(0, 20, 0, 1))[2:]
        self.assertEqual(found, [[1, 20, 0, 1], [0], [1, 20, 0, 1], [0]])

    def test_the_first_of_several(self):
        # Each period changes the sign.
        calls = [plan(1, 2, [0], [(OVER, 0, 0, 1)]), put(1, 1, -1, 2)]
        found = ask(*calls, path(0, 3), first(0, 20, 0, 1), first(0, 20, -2, 1), first(0, 20, -100, 1))[2:]
        self.assertEqual(found, [[4, 1, 1, -2, 1, 4, 1, -8, 1], [1, 1, -2, 1], [1, 3, -8, 1], [1, 7, -128, 1]])

    def test_limits_need_not_be_in_lowest_terms(self):
        calls = [plan(1, 2, [0], [(PAY, 0, 0, 1)]), put(2, 1, 1, 3)]
        found = ask(*calls, first(0, 9, 6, 6), first(0, 9, 8, 6), first(0, 9, 0, 5), first(0, 9, -2, 4))[2:]
        self.assertEqual(found, [[1, 4, 2, 3], [1, 3, 1, 1], [1, 7, -1, 3], [1, 8, -2, 3]])

    def test_great_limits(self):
        calls = [plan(1, 2, [0], [(PAY, 0, 0, 1)]), put(1, GREAT, 1, GREAT)]
        found = ask(*calls, first(0, 1, 1, GREAT), first(0, 0, 1, GREAT), first(0, 0, 2, GREAT), first(0, 2, 0, GREAT),
                    first(0, 20, -GREAT, 1), first(0, 20, GREAT, GREAT))[2:]
        self.assertEqual(found, [[1, 1, 0, 1], [0], [1, 0, 1, GREAT], [1, 2, -1, GREAT], [0], [1, 0, 1, GREAT]])

    def test_kinds(self):
        self.assertEqual(one_rule(GROW, 0, 0), [[0], [0]])
        self.assertEqual(one_rule(PAY, 1, 0), [[0], [1, 1, 19, 12]])
        self.assertEqual(one_rule(MOVE, 0, 1), [[1, 1, 7, 4], [0]])
        self.assertEqual(one_rule(SHARE, 1, 0), [[0], [1, 1, 7, 12]])
        self.assertEqual(one_rule(PULL, 0, 1), [[0], [0]])
        self.assertEqual(one_rule(OVER, 1, 0), [[0], [0]])
        self.assertEqual(one_rule(MOVE, 0, 0), [[0], [0]])
        self.assertEqual(one_rule(SHARE, 1, 1), [[0], [0]])
        self.assertEqual(one_rule(PULL, 0, 0), [[0], [0]])

    def test_without_rules_and_parameters(self):
        calls = [plan(2, 0, [-1, -1], []), put()]
        self.assertEqual(ask(*calls, first(1, 20, 1, 9), first(1, 20, 0, 9))[2:], [[1, 0, 0, 1], [0]])

    def test_a_fault_within_the_whole_time(self):
        # Below the limit from the beginning on, but for t periods there's a fault.
        calls = [plan(2, 1, [0, -1], [(OVER, 1, 0, 0)]), put(0, 1)]
        found = ask(*calls, first(0, 0, 1, 1), first(0, 1, 1, 1), first(1, 20, 1, 1), first(1, 20, -1, 1))[2:]
        self.assertEqual(found, [[1, 0, 0, 1], [-5], [-5], [-5]])
        found = ask(*powers(19, accounts=2), first(1, 19, 1, 1), first(1, 20, 1, 1), first(0, 20, 2 ** 59, 1))[2:]
        self.assertEqual(found, [[1, 0, 0, 1], [-5], [-5]])

    def test_told_weight(self):
        # Account 1 is a small part, account 2 counts down, and account 0 is both together in the end of each period.
        rules = [(OVER, 1, 0, 1)] * 5 + [(PAY, 2, 0, 3), (GROW, 0, 0, 4), (PULL, 0, 1, 3), (PULL, 0, 2, 3)]
        for rest, fits in ((23, True), (24, False)):
            calls = [plan(3, 5, [2, 0, 2], rules), put(1, 2 ** rest, 2 ** 59, 1, 5, 1, 1, 1, -1, 1)]
            found = ask(*calls, fault(6), first(0, 6, 1, 2), first(0, 4, 1, 2), first(0, 6, 5, 1), run(4))[2:]
            self.assertEqual(found[0], [0])
            self.assertEqual(found[1], [1, 5, 1, 2 ** (1475 + rest)] if fits else [-6])
            # Later, account 1 is too heavy a line.
            self.assertEqual(ask(*calls, fault(20), first(0, 20, 1, 2))[3], [-5])
            small = 2 ** (295 + rest)
            self.assertEqual(found[2:4], [[0], [1, 1, 4 * small + 1, small]])

    def test_what_is_not_told_may_be_heavy(self):
        # Amounts that are not below the limit, and amounts behind the first.
        found = ask(*powers(3), path(0, 20), first(0, 20, 0, 1), first(0, 20, 9, 1), first(0, 20, 8, 1))[2:]
        self.assertEqual(found, [[-6], [0], [1, 0, 8, 1], [0]])
        # An account that becomes 0 by being swapped with another, after heavy amounts.
        rules = [(GROW, 0, 0, 1)] * 7 + [(SHARE, 0, 2, 0), (SHARE, 1, 0, 0), (SHARE, 2, 1, 0)]
        calls = [plan(3, 2, [0, 0, -1], rules), put(1, 1, 2 ** 59 - 1, 1)]
        found = ask(*calls, run(7), first(0, 7, 1, 1), first(2, 7, 1, 1))[2:]
        self.assertEqual(found, [[-6], [0], [1, 0, 0, 1]])


class RefusalTest(unittest.TestCase):
    def test_forms_of_limits(self):
        wrong = [(), (1,), (1, 1, 1), (1, 1, 1, 1), (1, 0), (1, -1), (0, 0), (1, -GREAT), (GREAT, 0), [1] * 200,
                 [GREAT] * 200]
        for limit in wrong:
            found = ask(*LOAN, first(0, 2, *limit), first(0, 2, 900, 1), run(2))[2:]
            self.assertEqual(found, [[-2], [1, 1, 800, 1], [1, 580, 1]])


if __name__ == "__main__":
    unittest.main()
