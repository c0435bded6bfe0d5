"""Promise 9: aim."""

import unittest

from asking import (GREAT, GROW, MOVE, OVER, PAY, PULL, SHARE, aim, ask, fault, last, plan, powers, put, run, shifted,
                    table)

LOAN = [plan(1, 3, [0], [(GROW, 0, 0, 1), (PAY, 0, 0, 2)]), put(1000, 1, 1, 10, 300, 1)]


def one_rule(kind, a, b):
    """Two accounts, 5/2 and 7/3, and one rule with 3/4; aimed at 1 after one period, by each parameter."""
    calls = [plan(2, 3, [0, 1], [(kind, a, b, 2)]), put(5, 2, 7, 3, 3, 4)]
    return [ask(*calls, *[aim(account, p, 1, 1, 1) for p in range(3)])[2:] for account in (0, 1)]


class AimTest(unittest.TestCase):
    def test_example(self):
        self.assertEqual(last(*LOAN, aim(0, 2, 2, 0, 1)), [2, 12100, 21, 0, 1])

    def test_a_value_that_misses_the_target(self):
        # 580 + 1900 * (q - 1/10) is 960 at 3/10; the amount there is 1000 * 169/100 - 300 * 23/10.
        self.assertEqual(last(*LOAN, aim(0, 1, 2, 960, 1)), [2, 3, 10, 1000, 1])

    def test_a_target_that_is_there_already(self):
        found = ask(*LOAN, aim(0, 0, 2, 580, 1), aim(0, 1, 2, 1740, 3), aim(0, 2, 0, 1000, 1), aim(0, 0, 0, 1000, 1))
        self.assertEqual(found[2:], [[2, 1000, 1, 580, 1], [2, 1, 10, 580, 1], [0], [2, 1000, 1, 1000, 1]])

    def test_grow(self):
        # 1 over 7/4; 1 less 35/8, over 5/2.
        self.assertEqual(one_rule(GROW, 0, 0), [[[2, 4, 7, 1, 1], [0], [2, -3, 5, 1, 1]], [[0], [2, 1, 1, 1, 1], [0]]])

    def test_pay(self):
        self.assertEqual(one_rule(PAY, 1, 0), [[[2, 1, 1, 1, 1], [0], [0]], [[0], [2, 7, 4, 1, 1], [2, 4, 3, 1, 1]]])

    def test_move(self):
        self.assertEqual(one_rule(MOVE, 0, 1),
                         [[[2, 7, 4, 1, 1], [0], [2, 3, 2, 1, 1]], [[0], [2, 1, 4, 1, 1], [2, -4, 3, 1, 1]]])
        self.assertEqual(one_rule(MOVE, 0, 0), [[[2, 1, 1, 1, 1], [0], [0]], [[0], [2, 1, 1, 1, 1], [0]]])

    def test_share(self):
        self.assertEqual(one_rule(SHARE, 0, 1),
                         [[[2, 4, 1, 1, 1], [0], [2, 3, 5, 1, 1]],
                          [[2, -16, 9, 1, 1], [2, -7, 8, 1, 1], [2, -8, 15, 1, 1]]])
        self.assertEqual(one_rule(SHARE, 1, 1), [[[2, 1, 1, 1, 1], [0], [0]], [[0], [2, 1, 1, 1, 1], [0]]])

    def test_pull(self):
        self.assertEqual(one_rule(PULL, 0, 1),
                         [[[2, -3, 4, 1, 1], [2, -2, 1, 1, 1], [2, -9, 14, 1, 1]], [[0], [2, 1, 1, 1, 1], [0]]])
        self.assertEqual(one_rule(PULL, 1, 1), [[[2, 1, 1, 1, 1], [0], [0]], [[0], [2, 4, 7, 1, 1], [2, -4, 7, 1, 1]]])

    def test_over(self):
        # 10/3 with the slope -40/9: 3/4 + 7/3 * 9/40 = 51/40, and 5/2 over that is 100/51.
        self.assertEqual(one_rule(OVER, 0, 0),
                         [[[2, 3, 4, 1, 1], [0], [2, 51, 40, 100, 51]], [[0], [2, 1, 1, 1, 1], [0]]])

    def test_a_parameter_in_two_places(self):
        # q * (1 + q) at 1 is 2, the slope 3: aimed at 5 it's 2, and 6 there.
        calls = [plan(1, 1, [0], [(GROW, 0, 0, 0)]), put(1, 1)]
        self.assertEqual(ask(*calls, aim(0, 0, 1, 5, 1), aim(0, 0, 0, 5, 1))[2:], [[2, 2, 1, 6, 1], [2, 5, 1, 5, 1]])

    def test_targets_of_0_and_below(self):
        calls = [plan(1, 2, [0], [(PAY, 0, 0, 1)]), put(7, 1, 2, 1)]
        found = ask(*calls, aim(0, 0, 3, 0, 9), aim(0, 1, 3, -4, 6), aim(0, 1, 20, -10, 10))[2:]
        self.assertEqual(found, [[2, 6, 1, 0, 1], [2, 23, 9, -2, 3], [2, 2, 5, -1, 1]])

    def test_great_targets(self):
        calls = [plan(1, 2, [0], [(PAY, 0, 0, 1)]), put(-GREAT, 1, 1, GREAT)]
        found = ask(*calls, aim(0, 0, 0, GREAT, 1), aim(0, 1, 1, GREAT, 1), aim(0, 1, 1, -1, GREAT),
                    aim(0, 0, 0, -GREAT, GREAT))[2:]
        self.assertEqual(found, [[2, GREAT, 1, GREAT, 1], [2, -2 * GREAT, 1, GREAT, 1],
                                 [2, 1 - GREAT * GREAT, GREAT, -1, GREAT], [2, -1, 1, -1, 1]])

    def test_a_slope_of_0(self):
        # By a parameter that does not count; by one that counts for another account; by a rate of nothing.
        calls = [plan(3, 3, [0, -1, -1], [(PAY, 1, 0, 1), (GROW, 2, 0, 1)]), put(5, 1, 3, 1, 7, 1)]
        found = ask(*calls, aim(0, 2, 4, 0, 1), aim(0, 1, 4, 5, 1), aim(2, 1, 4, 1, 1), aim(1, 1, 0, 1, 1))[2:]
        self.assertEqual(found, [[0]] * 4)
        # q * (1 + q) at -1/2.
        calls = [plan(1, 1, [0], [(SHARE, 0, 0, 0), (GROW, 0, 0, 0)]), put(-1, 2)]
        self.assertEqual(last(*calls, aim(0, 0, 1, 1, 1)), [0])

    def test_the_set_values_stay(self):
        tried = [aim(0, 2, 2, 0, 1), aim(0, 1, 2, 960, 1), aim(0, 0, 20, 1, 3)]
        asked = [run(2), table(2), fault(20)]
        found = ask(*LOAN, *asked, *tried, *asked, *tried)[2:]
        self.assertEqual(found[:6], found[6:])

    def test_the_others_are_as_set(self):
        found = ask(*LOAN, put(1000, 1, 1, 5, 300, 1), aim(0, 2, 1, 0, 1), run(1))[3:]
        self.assertEqual(found, [[2, 1200, 1, 0, 1], [1, 900, 1]])


class FaultTest(unittest.TestCase):
    def test_division_by_0_there(self):
        # The slope tells 0 for the divisor.
        calls = [plan(2, 1, [0, -1], [(OVER, 1, 0, 0)]), put(5, 1)]
        found = ask(*calls, aim(0, 0, 1, 0, 1), aim(0, 0, 20, 0, 7), aim(0, 0, 0, 0, 1), aim(0, 0, 1, 1, 7), fault(20),
                    run(1))[2:]
        self.assertEqual(found, [[1, 0, 1], [1, 0, 1], [2, 0, 1, 0, 1], [2, 1, 7, 1, 7], [0], [2, 5, 1, 0, 1]])
        # 6 over q at 3 is 2, with the slope -2/3: aimed at 4 it's 0.
        calls = [plan(1, 2, [0], [(OVER, 0, 0, 1)]), put(6, 1, 3, 1)]
        self.assertEqual(ask(*calls, aim(0, 1, 1, 4, 1), aim(0, 1, 1, 3, 1))[2:], [[1, 0, 1], [2, 3, 2, 4, 1]])

    def test_weight_above_4000_there(self):
        # Account 1 is aimed at; account 0 begins with the same, and weighs 4000 after twenty periods with 2 ** 18.
        calls = powers(0, accounts=2)
        calls[0] = plan(2, 5, [0, 0], [(GROW, 0, 0, p) for p in (1, 2, 3, 4)])
        found = ask(*calls, aim(1, 0, 20, 2 ** 18, 1), aim(1, 0, 20, 2 ** 19, 1), aim(1, 0, 19, 2 ** 19, 1),
                    aim(1, 0, 20, -2 ** 19, 1), fault(20))[2:]
        self.assertEqual(found, [[2, 2 ** 18, 1, 2 ** 18, 1], [1, 2 ** 19, 1], [2, 2 ** 19, 1, 2 ** 19, 1],
                                 [1, -2 ** 19, 1], [0]])

    def test_faults_at_the_set_values(self):
        calls = [plan(2, 1, [0, -1], [(OVER, 1, 0, 0)]), put(0, 1)]
        found = ask(*calls, aim(0, 0, 1, 1, 1), aim(0, 0, 0, 1, 1), aim(1, 0, 20, 1, 1))[2:]
        self.assertEqual(found, [[-5], [2, 1, 1, 1, 1], [-5]])
        found = ask(*powers(19, accounts=2), aim(1, 0, 20, 1, 1), aim(1, 0, 19, 1, 1), aim(0, 0, 19, 0, 1))[2:]
        self.assertEqual(found, [[-5], [0], [2, 0, 1, 0, 1]])


class WeightTest(unittest.TestCase):
    def test_the_value(self):
        # The amount is x * 2 ** 1475 after five periods.
        found = ask(*shifted(1475), aim(0, 0, 5, 1, 2 ** 23), aim(0, 0, 5, 1, 2 ** 24), aim(0, 0, 5, -1, 2 ** 23),
                    aim(0, 0, 5, 3, 2 ** 23), aim(0, 0, 5, 3, 2 ** 22))[2:]
        self.assertEqual(found, [[2, 1, 2 ** 1498, 1, 2 ** 23], [-6], [2, -1, 2 ** 1498, -1, 2 ** 23], [-6],
                                 [2, 3, 2 ** 1497, 3, 2 ** 22]])

    def test_the_value_where_the_plan_has_a_fault(self):
        # Account 1 begins with 1 and grows three times by x: with 1 over 2 ** 1498 that's too heavy.
        rules = [(GROW, 0, 0, 1)] * 5 + [(GROW, 1, 0, 0)]
        calls = [plan(2, 3, [0, 2], rules), put(1, 1, 2 ** 59 - 1, 1, 1, 1)]
        found = ask(*calls, fault(5), aim(0, 0, 5, 1, 2 ** 23), aim(0, 0, 5, 1, 2 ** 24))[2:]
        self.assertEqual(found, [[0], [1, 1, 2 ** 1498], [-6]])

    def test_the_amount_there(self):
        # x * 2 ** 1475 * (1 + q) ** 5, with q 0 and aimed at 0: q would be -1/5, the last factor 1024/3125.
        rules = [(GROW, 0, 0, 1)] * 5 + [(GROW, 0, 0, 2)]
        light, heavy = [[plan(1, 3, [0], rules), put(x, 1, 2 ** 59 - 1, 1, 0, 1)] for x in (4, 8)]
        self.assertEqual(ask(*light, fault(5), aim(0, 2, 5, 0, 1))[2:], [[0], [2, -1, 5, 2 ** 1487, 3125]])
        self.assertEqual(ask(*heavy, fault(5), aim(0, 2, 5, 0, 1))[2:], [[0], [-6]])

    def test_what_is_not_told_may_be_heavy(self):
        # The amount and its slope.
        found = ask(*powers(0), run(20), table(20), aim(0, 0, 20, 0, 1))[2:]
        self.assertEqual(found, [[-6], [-6], [2, 0, 1, 0, 1]])
        # Where the slope is 0, nothing.
        found = ask(*powers(0, accounts=2), aim(1, 0, 20, 1, 3), run(20))[2:]
        self.assertEqual(found, [[0], [-6]])
        # The amount of another account there.
        rate = 2 ** 59 - 1
        calls = [plan(2, 2, [0, 1], [(GROW, 0, 0, 1)] * 6), put(1, 1, 0, 1)]
        found = ask(*calls, aim(1, 1, 5, rate, 1), put(1, 1, rate, 1), fault(5), run(5))[2:]
        self.assertEqual(found, [[2, rate, 1, rate, 1], [2], [0], [-6]])


class RefusalTest(unittest.TestCase):
    def test_forms_of_targets(self):
        wrong = [(), (1,), (1, 1, 1), (1, 1, 1, 1), (1, 0), (1, -1), (0, 0), (1, -GREAT), (GREAT, 0), [1] * 200,
                 [GREAT] * 200]
        for target in wrong:
            found = ask(*LOAN, aim(0, 2, 2, *target), aim(0, 2, 2, 0, 1), run(2))[2:]
            self.assertEqual(found, [[-2], [2, 12100, 21, 0, 1], [1, 580, 1]])

    def test_accounts_and_parameters_that_are_not_there(self):
        calls = [plan(3, 2, [0, 1, 1], []), put(3, 1, 5, 1)]
        found = ask(*calls, aim(2, 1, 0, 1, 1), aim(1, 2, 0, 1, 1), aim(3, 0, 0, 1, 1), aim(0, 0, 20, 1, 1))[2:]
        self.assertEqual(found, [[2, 1, 1, 1, 1], [-1], [-1], [2, 1, 1, 1, 1]])
        self.assertEqual(last(plan(1, 0, [-1], []), put(), aim(0, 0, 0, 1, 1)), [-1])


if __name__ == "__main__":
    unittest.main()
