"""Promise 4: run and path."""

import unittest
from fractions import Fraction

from asking import (GREAT, GROW, MOVE, OVER, PAY, PULL, SHARE, ask, fault, last, path, plan, powers, put, run,
                    shifted)

LOAN = [plan(1, 3, [0], [(GROW, 0, 0, 1), (PAY, 0, 0, 2)]), put(1000, 1, 1, 10, 300, 1)]


def one_rule(kind, a, b):
    """Two accounts, 5/2 and 7/3, and one rule with the value 3/4, for one period."""
    return last(plan(2, 3, [0, 1], [(kind, a, b, 2)]), put(5, 2, 7, 3, 3, 4), run(1))


class RunTest(unittest.TestCase):
    def test_example(self):
        self.assertEqual(ask(*LOAN, run(2), path(0, 2)), [[2], [3], [1, 580, 1], [3, 1000, 1, 800, 1, 580, 1]])

    def test_grow(self):
        self.assertEqual(one_rule(GROW, 0, 0), [2, 35, 8, 7, 3])
        self.assertEqual(one_rule(GROW, 1, 0), [2, 5, 2, 49, 12])

    def test_pay(self):
        self.assertEqual(one_rule(PAY, 0, 0), [2, 7, 4, 7, 3])
        self.assertEqual(one_rule(PAY, 1, 0), [2, 5, 2, 19, 12])

    def test_move(self):
        self.assertEqual(one_rule(MOVE, 0, 1), [2, 7, 4, 37, 12])
        self.assertEqual(one_rule(MOVE, 1, 0), [2, 13, 4, 19, 12])
        self.assertEqual(one_rule(MOVE, 0, 0), [2, 5, 2, 7, 3])

    def test_share(self):
        self.assertEqual(one_rule(SHARE, 0, 1), [2, 5, 8, 101, 24])
        self.assertEqual(one_rule(SHARE, 1, 0), [2, 17, 4, 7, 12])
        self.assertEqual(one_rule(SHARE, 1, 1), [2, 5, 2, 7, 3])

    def test_pull(self):
        self.assertEqual(one_rule(PULL, 0, 1), [2, 17, 4, 7, 3])
        self.assertEqual(one_rule(PULL, 1, 0), [2, 5, 2, 101, 24])
        self.assertEqual(one_rule(PULL, 0, 0), [2, 35, 8, 7, 3])

    def test_over(self):
        self.assertEqual(one_rule(OVER, 0, 0), [2, 10, 3, 7, 3])
        self.assertEqual(one_rule(OVER, 1, 0), [2, 5, 2, 28, 9])
        found = last(plan(1, 2, [0], [(OVER, 0, 0, 1)]), put(5, 2, -3, 4), path(0, 2))
        self.assertEqual(found, [3, 5, 2, -10, 3, 40, 9])

    def test_rules_are_done_in_order_with_what_the_ones_before_left(self):
        rules = [(PAY, 0, 0, 1), (GROW, 0, 0, 2), (SHARE, 0, 1, 3), (PULL, 2, 1, 3), (MOVE, 1, 2, 1), (OVER, 2, 0, 2)]
        values = [Fraction(40), Fraction(4), Fraction(1, 2), Fraction(1, 3)]
        a, b, c = values[0], Fraction(0), values[2]
        numbers = [number for value in values for number in (value.numerator, value.denominator)]
        calls = [plan(3, 4, [0, -1, 2], rules), put(*numbers)]
        paths = [[a], [b], [c]]
        for period in range(20):
            a = (a - 4) * Fraction(3, 2)
            shared = a / 3
            a -= shared
            b += shared
            c += b / 3
            b -= 4
            c += 4
            c *= 2
            for amounts, amount in zip(paths, (a, b, c)):
                amounts.append(amount)
        found = ask(*calls, run(20), *[path(k, 20) for k in range(3)])
        ends = [amounts[-1] for amounts in paths]
        self.assertEqual(found[2], [3] + [number for x in ends for number in (x.numerator, x.denominator)])
        for k in range(3):
            told = [number for x in paths[k] for number in (x.numerator, x.denominator)]
            self.assertEqual(found[3 + k], [21] + told)

    def test_before_the_first_period(self):
        found = ask(plan(3, 2, [1, -1, 0], [(PAY, 0, 0, 0)]), put(1, 2, 6, 4), run(0), path(0, 0), path(1, 0))
        self.assertEqual(found[2:], [[3, 3, 2, 0, 1, 1, 2], [1, 3, 2], [1, 0, 1]])

    def test_two_accounts_may_begin_with_one_parameter(self):
        found = last(plan(2, 1, [0, 0], [(MOVE, 0, 1, 0)]), put(3, 1), run(2))
        self.assertEqual(found, [2, -3, 1, 9, 1])

    def test_without_rules_nothing_changes(self):
        found = ask(plan(2, 1, [0, -1], []), put(3, 9), run(20), path(0, 2))
        self.assertEqual(found[2:], [[2, 1, 3, 0, 1], [3, 1, 3, 1, 3, 1, 3]])

    def test_great_values(self):
        found = last(plan(1, 2, [0], [(GROW, 0, 0, 1)]), put(-GREAT, 1, GREAT, 1), run(1))
        self.assertEqual(found, [1, -GREAT * (GREAT + 1), 1])
        found = last(plan(1, 2, [0], [(OVER, 0, 0, 1)]), put(1, GREAT, -1, GREAT), run(2))
        self.assertEqual(found, [1, GREAT, 1])

    def test_asked_in_any_order(self):
        found = ask(*LOAN, run(3), run(0), path(0, 1), run(3), run(1))
        self.assertEqual(found[2:], [[1, 338, 1], [1, 1000, 1], [2, 1000, 1, 800, 1], [1, 338, 1], [1, 800, 1]])


class RefusalTest(unittest.TestCase):
    def test_times(self):
        self.assertEqual(len(last(*LOAN, path(0, 20))), 43)
        self.assertEqual(last(*LOAN, run(20))[0], 1)
        for t in (-1, 21, GREAT, -GREAT):
            self.assertEqual(ask(*LOAN, run(t), path(0, t), run(2))[2:], [[-1], [-1], [1, 580, 1]])
            self.assertEqual(ask(run(t), LOAN[0], run(t), path(0, t)), [[-1], [2], [-1], [-1]])

    def test_accounts(self):
        for a in (-1, 1, GREAT, -GREAT):
            self.assertEqual(ask(*LOAN, path(a, 0), path(0, 1))[2:], [[-1], [2, 1000, 1, 800, 1]])
        six = [plan(6, 1, [0] * 6, []), put(1, 1)]
        self.assertEqual(ask(*six, path(5, 0), path(6, 0))[2:], [[1, 1, 1], [-1]])

    def test_no_values(self):
        self.assertEqual(ask(run(0), path(0, 0)), [[-4], [-1]])
        self.assertEqual(ask(LOAN[0], run(0), path(0, 20), path(1, 0), run(21))[1:], [[-4], [-4], [-1], [-1]])

    def test_division_by_0(self):
        found = ask(plan(2, 1, [0, -1], [(OVER, 1, 0, 0)]), put(0, 1), run(0), run(1), path(0, 0), path(0, 1),
                    path(0, 20), path(2, 1), run(21), fault(1), run(0))
        self.assertEqual(found[2:], [[2, 0, 1, 0, 1], [-5], [1, 0, 1], [-5], [-5], [-1], [-1], [1, 1, 1, 1],
                                     [2, 0, 1, 0, 1]])

    def test_path_where_only_the_last_period_has_a_fault(self):
        # The fault is in account 0; account 1 is 0 all the time.
        found = ask(*powers(19, accounts=2), path(1, 19), path(1, 20), path(0, 20), run(20), path(1, 19))
        self.assertEqual(found[2:], [[20] + [0, 1] * 20, [-5], [-5], [-5], [20] + [0, 1] * 20])

    def test_told_weight_of_run(self):
        for count, fits in ((1498, True), (1499, False)):
            calls = shifted(count)
            told = [1, 2 ** count, 1] if fits else [-6]
            self.assertEqual(ask(*calls, fault(5), run(5))[2:], [[0], told])

    def test_told_weight_of_path(self):
        for count, fits in ((1498, True), (1499, False)):
            found = ask(*shifted(count), path(0, 5), path(0, 4))[2:]
            self.assertEqual(found[0][-2:] if fits else found[0], [2 ** count, 1] if fits else [-6])
            self.assertEqual(len(found[1]), 11)

    def test_path_with_a_heavy_amount_in_between(self):
        # Accounts 0 and 1 are swapped by way of 2, then 0 grows: it is 0 after each odd period.
        rules = [(SHARE, 0, 2, 0), (SHARE, 1, 0, 0), (SHARE, 2, 1, 0)] + [(GROW, 0, 0, 1)] * 7
        calls = [plan(3, 2, [0, -1, -1], rules), put(1, 1, 2 ** 59 - 1, 1)]
        found = ask(*calls, path(0, 7), path(0, 8), path(0, 9), path(1, 8), path(1, 9), path(2, 18))[2:]
        self.assertEqual(found[0], [8, 1, 1, 0, 1, 2 ** 413, 1, 0, 1, 2 ** 826, 1, 0, 1, 2 ** 1239, 1, 0, 1])
        self.assertEqual(found[1:3], [[-6], [-6]])
        self.assertEqual(found[3][-4:], [2 ** 1239, 1, 0, 1])
        self.assertEqual(found[4:], [[-6], [19] + [0, 1] * 19])

    def test_a_heavy_account_does_not_refuse_the_path_of_another(self):
        found = ask(*powers(0, accounts=2), run(20), path(1, 20), path(0, 20))
        self.assertEqual(found[2:], [[-6], [21] + [0, 1] * 21, [-6]])

    def test_fault_comes_before_told_weight(self):
        self.assertEqual(ask(*powers(19), run(19), run(20), path(0, 19), path(0, 20))[2:], [[-6], [-5], [-6], [-5]])


if __name__ == "__main__":
    unittest.main()
