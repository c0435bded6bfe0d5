"""Promises 6 and 11: pull and total."""

import unittest

from asking import (GREAT, GROW, MOVE, OVER, PAY, PULL, SHARE, ask, fault, last, plan, powers, pull, put, run, shifted,
                    slopes, table, total)

LOAN = [plan(1, 3, [0], [(GROW, 0, 0, 1), (PAY, 0, 0, 2)]), put(1000, 1, 1, 10, 300, 1)]


def one_rule(kind, a, b):
    """Two accounts, 5/2 and 7/3, and one rule with the value 3/4; after one period with the weights 2 and -1/3."""
    calls = [plan(2, 3, [0, 1], [(kind, a, b, 2)]), put(5, 2, 7, 3, 3, 4)]
    return ask(*calls, pull(1, 2, 1, -1, 3), total(1))[2:]


class PullTest(unittest.TestCase):
    def test_one_account(self):
        self.assertEqual(last(*LOAN, pull(2, 1, 1)), [3, 121, 100, 1900, 1, -21, 10])
        self.assertEqual(last(*LOAN, pull(2, -10, 3)), [3, -121, 30, -19000, 3, 7, 1])

    def test_grow(self):
        self.assertEqual(one_rule(GROW, 0, 0), [[3, 7, 2, -1, 3, 5, 1], [1, 161, 24]])
        self.assertEqual(one_rule(GROW, 1, 0), [[3, 2, 1, -7, 12, -7, 9], [1, 79, 12]])

    def test_pay(self):
        self.assertEqual(one_rule(PAY, 0, 0), [[3, 2, 1, -1, 3, -2, 1], [1, 49, 12]])
        self.assertEqual(one_rule(PAY, 1, 0), [[3, 2, 1, -1, 3, 1, 3], [1, 49, 12]])

    def test_move(self):
        self.assertEqual(one_rule(MOVE, 0, 1), [[3, 2, 1, -1, 3, -7, 3], [1, 29, 6]])
        self.assertEqual(one_rule(MOVE, 0, 0), [[3, 2, 1, -1, 3, 0, 1], [1, 29, 6]])

    def test_share(self):
        self.assertEqual(one_rule(SHARE, 0, 1), [[3, 1, 4, -1, 3, -35, 6], [1, 29, 6]])
        self.assertEqual(one_rule(SHARE, 1, 1), [[3, 2, 1, -1, 3, 0, 1], [1, 29, 6]])

    def test_pull(self):
        self.assertEqual(one_rule(PULL, 0, 1), [[3, 2, 1, 7, 6, 14, 3], [1, 79, 12]])
        self.assertEqual(one_rule(PULL, 0, 0), [[3, 7, 2, -1, 3, 5, 1], [1, 161, 24]])

    def test_over(self):
        self.assertEqual(one_rule(OVER, 0, 0), [[3, 8, 3, -1, 3, -80, 9], [1, 17, 3]])
        self.assertEqual(one_rule(OVER, 1, 0), [[3, 2, 1, -4, 9, 112, 81], [1, 101, 18]])

    def test_a_weight_of_1_and_else_0_tells_the_slopes_of_one_account(self):
        rules = [(GROW, 0, 0, 1), (SHARE, 0, 1, 2), (PULL, 2, 1, 0), (OVER, 2, 0, 3), (MOVE, 2, 0, 1)]
        calls = [plan(3, 4, [0, -1, 3], rules), put(9, 4, -2, 5, 1, 3, 8, 7)]
        for t in (0, 1, 2, 7, 20):
            for a in range(3):
                weights = [0, 1, 0, 5, 0, 1]
                weights[2 * a:2 * a + 2] = [1, 1]
                found = ask(*calls, pull(t, *weights), slopes(a, t))[2:]
                self.assertEqual(found[0], found[1])

    def test_weights_need_not_be_in_lowest_terms(self):
        calls = [plan(2, 2, [0, 1], [(PULL, 0, 1, 1)]), put(5, 1, 7, 2)]
        found = ask(*calls, pull(3, 6, 4, -10, 4), pull(3, 3, 2, -5, 2), pull(3, 0, 9, 0, 1), pull(3, 0, 9, GREAT, GREAT))
        self.assertEqual(found[2:], [[2, 3, 2, 29, 1], [2, 3, 2, 29, 1], [2, 0, 1, 0, 1], [2, 0, 1, 1, 1]])

    def test_great_weights(self):
        calls = [plan(2, 1, [0, 0], []), put(3, 1)]
        found = ask(*calls, pull(20, GREAT, 1, -GREAT, 1), pull(20, -GREAT, 1, 1, GREAT), pull(0, GREAT, 1, GREAT, 1))
        self.assertEqual(found[2:], [[1, 0, 1], [1, 1 - GREAT * GREAT, GREAT], [1, 2 * GREAT, 1]])

    def test_before_the_first_period(self):
        found = last(plan(3, 2, [1, -1, 1], [(PAY, 0, 0, 0)]), put(1, 2, 3, 4), pull(0, 1, 2, 7, 1, 1, 3))
        self.assertEqual(found, [2, 0, 1, 5, 6])

    def test_no_parameters_and_no_accounts(self):
        self.assertEqual(last(plan(2, 0, [-1, -1], []), put(), pull(20, 1, 1, 2, 1)), [0])
        self.assertEqual(ask(put(), pull(0), pull(20), pull(0, 1, 1)), [[0], [0], [0], [-2]])

    def test_told_weight(self):
        # The amount is 0, its slope by the parameter that it begins with 2 ** 1475.
        rules = [(GROW, 0, 0, 1)] * 5
        calls = [plan(1, 2, [0], rules), put(0, 1, 2 ** 59 - 1, 1)]
        found = ask(*calls, pull(5, 2 ** 23, 1), pull(5, 2 ** 24, 1), pull(5, -2 ** 23, 1), pull(5, -2 ** 24, 1),
                    pull(5, 2 ** 24, 3), pull(5, 2 ** 23, 3), pull(5, 2 ** 22, 3), pull(5, 0, 1))
        heavy = 2 ** 1498
        self.assertEqual(found[2:], [[2, heavy, 1, 0, 1], [-6], [2, -heavy, 1, 0, 1], [-6], [-6], [-6],
                                     [2, heavy // 2, 3, 0, 1], [2, 0, 1, 0, 1]])

    def test_told_weight_of_the_last_slope(self):
        calls = [plan(2, 2, [1, -1], [(GROW, 0, 0, 0)] * 5), put(2 ** 59 - 1, 1, 0, 1)]
        found = ask(*calls, pull(5, 2 ** 23, 1, 1, 1), pull(5, 2 ** 24, 1, 1, 1))[2:]
        self.assertEqual(found, [[2, 0, 1, 2 ** 1498, 1], [-6]])

    def test_what_is_not_told_may_be_heavy(self):
        # Account 0 and its slopes are heavy; account 1 is paid from.
        calls = powers(0, [(PAY, 1, 0, 5)], [1, 1], accounts=2)
        found = ask(*calls, table(20), pull(20, 0, 1, 1, 1), pull(20, 1, 1, 1, 1), pull(20, 0, 1, -3, 1))[2:]
        self.assertEqual(found, [[-6], [6] + [0, 1] * 5 + [-20, 1], [-6], [6] + [0, 1] * 5 + [60, 1]])
        # Both accounts are heavy, but always the same.
        calls = [plan(2, 2, [0, 0], [(GROW, a, 0, 1) for a in (0, 1)] * 5), put(1, 1, 2 ** 59 - 1, 1)]
        found = ask(*calls, table(6), pull(6, 1, 1, -1, 1), pull(6, 1, 1, -2, 1))[2:]
        self.assertEqual(found, [[-6], [2, 0, 1, 0, 1], [-6]])


class TotalTest(unittest.TestCase):
    def test_one_account(self):
        self.assertEqual(ask(*LOAN, total(0), total(1), total(2))[2:], [[1, 1000, 1], [1, 800, 1], [1, 580, 1]])

    def test_several_accounts(self):
        calls = [plan(6, 3, [0, 1, -1, 2, 2, -1], []), put(1, 2, -1, 3, 5, 4)]
        self.assertEqual(ask(*calls, total(0), total(20))[2:], [[1, 8, 3]] * 2)

    def test_move_and_share_leave_it(self):
        rules = [(MOVE, 0, 1, 0), (SHARE, 1, 2, 1), (SHARE, 2, 0, 2), (MOVE, 2, 2, 1), (SHARE, 0, 0, 2)]
        calls = [plan(3, 3, [0, 1, -1], rules), put(7, 2, 1, 3, -1, 5)]
        self.assertEqual(ask(*calls, total(0), total(7), total(20))[2:], [[1, 23, 6]] * 3)

    def test_sums_are_in_lowest_terms(self):
        found = last(plan(3, 1, [0, 0, 0], []), put(1, 6), total(3))
        self.assertEqual(found, [1, 1, 2])

    def test_no_accounts(self):
        self.assertEqual(ask(put(), total(0), total(20)), [[0], [1, 0, 1], [1, 0, 1]])
        self.assertEqual(last(plan(2, 0, [-1, -1], []), put(), total(20)), [1, 0, 1])

    def test_told_weight(self):
        self.assertEqual(ask(*shifted(1498), total(5))[2:], [[1, 2 ** 1498, 1]])
        self.assertEqual(ask(*shifted(1499), fault(5), total(5), total(4))[2:], [[0], [-6], [1, 2 ** 1204, 1]])

    def test_light_amounts_with_a_heavy_sum(self):
        # 1/3 ** k and 1/2 ** k: their sum has the denominator 6 ** k.
        calls = [plan(2, 3, [0, 0], [(OVER, 0, 0, 1)] * 5 + [(OVER, 1, 0, 2)] * 5), put(1, 1, 3 ** 15, 1, 2 ** 15, 1)]
        found = ask(*calls, run(8), total(8), total(4))[2:]
        self.assertEqual(found[0], [2, 1, 3 ** 600, 1, 2 ** 600])
        self.assertEqual(found[1:], [[-6], [1, 3 ** 300 + 2 ** 300, 6 ** 300]])

    def test_heavy_amounts_with_a_light_sum(self):
        rules = [(GROW, a, 0, 2) for a in (0, 1)] * 5
        calls = [plan(3, 4, [0, 1, 3], rules), put(1, 1, -1, 1, 2 ** 59 - 1, 1, 5, 1)]
        self.assertEqual(ask(*calls, run(6), total(6))[2:], [[-6], [1, 5, 1]])


class RefusalTest(unittest.TestCase):
    def test_forms_of_weights(self):
        two = [plan(2, 1, [0, -1], [(PAY, 1, 0, 0)]), put(3, 1)]
        wrong = [(), (1,), (1, 1), (1, 1, 2), (1, 1, 1, 1, 1), (1, 1, 1, 1, 1, 1), (1, 0, 1, 1), (1, 1, 1, 0),
                 (1, -1, 1, 1), (1, 1, 1, -1), (0, 0, 0, 0), (1, 1, 1, -GREAT), [1] * 200, [GREAT] * 200]
        for weights in wrong:
            found = ask(*two, pull(1, *weights), pull(1, 1, 1, 1, 1), run(1))[2:]
            self.assertEqual(found, [[-2], [1, 0, 1], [2, 3, 1, -3, 1]])

    def test_weights_go_by_accounts_and_not_by_parameters(self):
        calls = [plan(1, 2, [0], []), put(1, 1, 1, 1)]
        self.assertEqual(ask(*calls, pull(0, 1, 1), pull(0, 1, 1, 1, 1))[2:], [[2, 1, 1, 0, 1], [-2]])


if __name__ == "__main__":
    unittest.main()
