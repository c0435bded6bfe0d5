"""Promise 8: whatIf."""

import unittest
from fractions import Fraction

from asking import (GREAT, GROW, MOVE, OVER, PAY, PULL, SHARE, ask, fault, last, plan, powers, put, run, shifted,
                    slopes, table, what_if)

LOAN = [plan(1, 3, [0], [(GROW, 0, 0, 1), (PAY, 0, 0, 2)]), put(1000, 1, 1, 10, 300, 1)]


def one_rule(kind, a, b):
    """Two accounts, 5/2 and 7/3, and one rule with 3/4; what they are after one period with 2, 2 and 1/2."""
    calls = [plan(2, 3, [0, 1], [(kind, a, b, 2)]), put(5, 2, 7, 3, 3, 4)]
    found = ask(*calls, *[what_if(account, 1, 2, 1, 2, 1, 1, 2) for account in (0, 1)])[2:]
    told = []
    for three, *numbers in found:
        assert three == 3 and len(numbers) == 6
        parts = [Fraction(numbers[k], numbers[k + 1]) for k in (0, 2, 4)]
        assert parts[2] == parts[0] - parts[1]
        told.append((str(parts[0]), str(parts[1])))
    return told


class WhatIfTest(unittest.TestCase):
    def test_example(self):
        self.assertEqual(last(*LOAN, what_if(0, 2, 1000, 1, 1, 5, 300, 1)), [3, 780, 1, 770, 1, 10, 1])

    def test_all_parameters_count(self):
        # 1200 * 9/4 - 100 * 5/2 = 2450; 580 + 200 * 121/100 + 1900 * 2/5 + 200 * 21/10 = 2002.
        self.assertEqual(last(*LOAN, what_if(0, 2, 1200, 1, 1, 2, 100, 1)), [3, 2450, 1, 2002, 1, 448, 1])

    def test_the_same_values(self):
        found = ask(*LOAN, what_if(0, 2, 2000, 2, 10, 100, 900, 3), what_if(0, 0, 1000, 1, 1, 10, 300, 1))[2:]
        self.assertEqual(found, [[3, 580, 1, 580, 1, 0, 1], [3, 1000, 1, 1000, 1, 0, 1]])

    def test_kinds(self):
        self.assertEqual(one_rule(GROW, 0, 0), [("3", "23/8"), ("2", "2")])
        self.assertEqual(one_rule(GROW, 1, 0), [("2", "2"), ("3", "35/12")])
        self.assertEqual(one_rule(PAY, 0, 0), [("3/2", "3/2"), ("2", "2")])
        self.assertEqual(one_rule(MOVE, 0, 1), [("3/2", "3/2"), ("5/2", "5/2")])
        self.assertEqual(one_rule(SHARE, 0, 1), [("1", "9/8"), ("3", "23/8")])
        self.assertEqual(one_rule(PULL, 0, 1), [("3", "35/12"), ("2", "2")])
        self.assertEqual(one_rule(OVER, 0, 0), [("4", "34/9"), ("2", "2")])

    def test_kinds_with_the_same_account(self):
        self.assertEqual(one_rule(MOVE, 0, 0), [("2", "2"), ("2", "2")])
        self.assertEqual(one_rule(SHARE, 1, 1), [("2", "2"), ("2", "2")])
        self.assertEqual(one_rule(PULL, 1, 1), [("2", "2"), ("3", "35/12")])

    def test_a_straight_plan_is_guessed_rightly(self):
        calls = [plan(2, 3, [0, -1], [(PAY, 0, 0, 1), (MOVE, 0, 1, 2)]), put(5, 1, 1, 3, -2, 7)]
        for t in (0, 1, 20):
            for a in (0, 1):
                found = last(*calls, what_if(a, t, -8, 3, 0, 1, 9, 1))
                self.assertEqual(found[1:3], found[3:5])
                self.assertEqual(found[5:], [0, 1])

    def test_values_of_0_and_below(self):
        calls = [plan(1, 2, [0], [(OVER, 0, 0, 1)]), put(-6, 1, 3, 1)]
        # The amount is -2, its slopes 1/3 and 2/3.
        found = ask(*calls, what_if(0, 1, 0, 5, -3, 1), what_if(0, 1, 6, 1, -3, 2))[2:]
        self.assertEqual(found, [[3, 0, 1, -4, 1, 4, 1], [3, -4, 1, -1, 1, -3, 1]])
        # A set value of 0 counts as any other.
        calls = [plan(1, 2, [0], [(GROW, 0, 0, 1)]), put(3, 1, 0, 1)]
        self.assertEqual(last(*calls, what_if(0, 2, 3, 1, 1, 1)), [3, 12, 1, 9, 1, 3, 1])

    def test_without_parameters_and_without_rules(self):
        self.assertEqual(last(plan(2, 0, [-1, -1], []), put(), what_if(1, 20)), [3, 0, 1, 0, 1, 0, 1])
        self.assertEqual(last(plan(1, 1, [0], []), put(3, 1), what_if(0, 20, 6, 4)), [3, 3, 2, 3, 2, 0, 1])

    def test_great_values(self):
        calls = [plan(1, 2, [0], [(GROW, 0, 0, 1)]), put(1, GREAT, GREAT, 1)]
        found = last(*calls, what_if(0, 1, GREAT, 1, -GREAT, 1))
        amount = Fraction(GREAT + 1, GREAT)
        guess = amount + (GREAT + 1) * (GREAT - Fraction(1, GREAT)) + Fraction(-2 * GREAT, GREAT)
        actual = GREAT * (1 - GREAT)
        self.assertEqual(found, [3, actual, 1, guess.numerator, guess.denominator, (actual - guess).numerator,
                                 (actual - guess).denominator])

    def test_the_set_values_stay(self):
        asked = [run(2), table(2), fault(20)]
        tried = [what_if(0, 2, 1, 1, 1, 1, 1, 1), what_if(0, 2, 1, 0, 1, 1, 1, 1), what_if(0, 20, 5, 7, 5, 7, 5, 7)]
        found = ask(*LOAN, *asked, *tried, *asked, tried[0])[2:]
        self.assertEqual(found[:3], found[6:9])
        self.assertEqual(found[3], found[9])

    def test_other_accounts(self):
        calls = [plan(3, 2, [0, 1, -1], [(SHARE, 0, 2, 1)]), put(8, 1, 1, 4)]
        found = ask(*calls, *[what_if(a, 1, 8, 1, 1, 2) for a in range(3)])[2:]
        self.assertEqual(found, [[3, 4, 1, 4, 1, 0, 1], [3, 1, 2, 1, 2, 0, 1], [3, 4, 1, 4, 1, 0, 1]])


class FaultTest(unittest.TestCase):
    def test_division_by_0(self):
        calls = [plan(2, 2, [0, -1], [(OVER, 1, 0, 1)])]
        good, wrong = (1, 1, 2, 1), (1, 1, 0, 3)
        for values, others, told in ((good, good, [3, 1, 1, 1, 1, 0, 1]), (good, wrong, [-5]), (wrong, good, [-5]),
                                     (wrong, wrong, [-5])):
            found = ask(*calls, put(*values), what_if(0, 1, *others), what_if(0, 0, *others), what_if(0, 20, *others))
            self.assertEqual(found[2:], [told, [3, 1, 1, 1, 1, 0, 1], told])

    def test_weight_above_4000(self):
        # Account 0 becomes too heavy in the last period, or just not; account 1 is 0.
        calls = powers(18, accounts=2)
        light = calls[1][2:]
        heavy = [2 ** 19, 1] + light[2:]
        for values, others, told in ((light, light, [3, 0, 1, 0, 1, 0, 1]), (light, heavy, [-5]), (heavy, light, [-5]),
                                     (heavy, heavy, [-5])):
            found = ask(calls[0], put(*values), what_if(1, 20, *others), what_if(1, 19, *others), fault(20))
            self.assertEqual(found[2:4], [told, [3, 0, 1, 0, 1, 0, 1]])
            self.assertEqual(found[4], [0] if values == light else [1, 20, 4, 2])

    def test_fault_comes_before_told_weight(self):
        # At the set values all is light; at the others, account 0 has a weight above 1500 after eight periods.
        calls = powers(19)
        others = calls[1][2:]
        found = ask(calls[0], put(*[0, 1] * 5), what_if(0, 19, *others), what_if(0, 20, *others))[2:]
        self.assertEqual(found, [[-6], [-5]])
        # The other way round: what the slopes tell is too heavy, and the others have a fault or not.
        rules = [(GROW, 0, 0, 1)] * 5 + [(OVER, 0, 0, 2)]
        calls = [plan(1, 3, [0], rules), put(1, 1, 2 ** 59 - 1, 1, 1, 1)]
        found = ask(*calls, what_if(0, 6, 1, 1, 0, 1, 1, 1), what_if(0, 6, 1, 1, 0, 1, 0, 1))[2:]
        self.assertEqual(found, [[-6], [-5]])


class WeightTest(unittest.TestCase):
    def test_what_it_is(self):
        # At the set values 1 and 0, the slopes are 1 and 25.
        calls = [shifted(1498)[0], put(1, 1, 0, 1)]
        rate = 2 ** 59 - 1
        found = ask(*calls, what_if(0, 5, 2 ** 23, 1, rate, 1), what_if(0, 5, 2 ** 24, 1, rate, 1))[2:]
        guess = 2 ** 23 + 25 * rate
        # 2 ** 1499 is too heavy; less what the slopes tell of it, it would be light enough.
        self.assertEqual(found, [[3, 2 ** 1498, 1, guess, 1, 2 ** 1498 - guess, 1], [-6]])

    def test_what_the_slopes_tell(self):
        # At the set values 0 and 2 ** 59 - 1, the slopes are 2 ** 1475 and 0.
        calls = [shifted(1498)[0], put(0, 1, 2 ** 59 - 1, 1)]
        found = ask(*calls, what_if(0, 5, 2 ** 23, 1, 0, 1), what_if(0, 5, 2 ** 24, 1, 0, 1))[2:]
        self.assertEqual(found, [[3, 2 ** 23, 1, 2 ** 1498, 1, 2 ** 23 - 2 ** 1498, 1], [-6]])

    def test_the_difference(self):
        # As before, but the other rate makes every factor -2 ** 59.
        calls = [shifted(1498)[0], put(0, 1, 2 ** 59 - 1, 1)]
        rate = -2 ** 59 - 1
        found = ask(*calls, what_if(0, 5, 2 ** 22, 1, rate, 1), what_if(0, 5, 2 ** 23, 1, rate, 1))[2:]
        self.assertEqual(found, [[3, -2 ** 1497, 1, 2 ** 1497, 1, -2 ** 1498, 1], [-6]])

    def test_what_is_not_told_may_be_heavy(self):
        # The amount at the set values.
        calls = shifted(1499)
        found = ask(*calls, run(5), what_if(0, 5, 0, 1, 2 ** 59 - 1, 1))[2:]
        self.assertEqual(found, [[-6], [3, 0, 1, 0, 1, 0, 1]])
        # Another account.
        calls = powers(0, [(PAY, 1, 0, 5)], [1, 1], accounts=2)
        found = ask(*calls, run(20), slopes(0, 20), what_if(1, 20, *calls[1][2:-2], 3, 1))[2:]
        self.assertEqual(found, [[-6], [-6], [3, -60, 1, -60, 1, 0, 1]])


class RefusalTest(unittest.TestCase):
    def test_forms_of_values(self):
        calls = [plan(2, 2, [0, 1], [(PAY, 1, 0, 0)]), put(3, 1, 4, 1)]
        wrong = [(), (1,), (1, 1), (1, 1, 2), (1, 1, 1, 1, 1), (1, 1, 1, 1, 1, 1), (1, 0, 1, 1), (1, 1, 1, 0),
                 (1, -1, 1, 1), (1, 1, 1, -1), (0, 0, 0, 0), (1, 1, 1, -GREAT), [1] * 200, [-GREAT] * 200]
        for values in wrong:
            found = ask(*calls, what_if(1, 1, *values), what_if(1, 1, 5, 1, 7, 1), run(1))[2:]
            self.assertEqual(found, [[-2], [3, 2, 1, 2, 1, 0, 1], [2, 3, 1, 1, 1]])

    def test_values_go_by_parameters_and_not_by_accounts(self):
        calls = [plan(2, 1, [0, 0], []), put(1, 1)]
        self.assertEqual(ask(*calls, what_if(0, 0, 1, 1, 1, 1), what_if(0, 0, 2, 1))[2:], [[-2], [3, 2, 1, 2, 1, 0, 1]])


if __name__ == "__main__":
    unittest.main()
