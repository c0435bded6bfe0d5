"""Promise 7: elastic."""

import unittest

from asking import (GREAT, GROW, MOVE, OVER, PAY, PULL, SHARE, ask, elastic, fault, last, plan, powers, put, run,
                    slopes)

LOAN = [plan(1, 3, [0], [(GROW, 0, 0, 1), (PAY, 0, 0, 2)]), put(1000, 1, 1, 10, 300, 1)]


def one_rule(kind, a, b):
    """Two accounts, 5/2 and 7/3, and one rule with the value 3/4; each by each parameter after one period."""
    calls = [plan(2, 3, [0, 1], [(kind, a, b, 2)]), put(5, 2, 7, 3, 3, 4)]
    found = ask(*calls, *[elastic(account, p, 1) for account in (0, 1) for p in (0, 1, 2)])[2:]
    assert all(answer[0] == 1 for answer in found)
    return [number if over == 1 else (number, over) for one, number, over in found]


class ElasticTest(unittest.TestCase):
    def test_example(self):
        found = ask(*LOAN, elastic(0, 0, 2), elastic(0, 1, 2), elastic(0, 2, 2))[2:]
        self.assertEqual(found, [[1, 121, 58], [1, 19, 58], [1, -63, 58]])

    def test_kinds(self):
        self.assertEqual(one_rule(GROW, 0, 0), [1, 0, (3, 7), 0, 1, 0])
        self.assertEqual(one_rule(PAY, 1, 0), [1, 0, 0, 0, (28, 19), (-9, 19)])
        self.assertEqual(one_rule(MOVE, 0, 1), [(10, 7), 0, (-3, 7), 0, (28, 37), (9, 37)])
        self.assertEqual(one_rule(SHARE, 0, 1), [1, 0, -3, (45, 101), (56, 101), (45, 101)])
        self.assertEqual(one_rule(PULL, 0, 1), [(10, 17), (7, 17), (7, 17), 0, 1, 0])
        self.assertEqual(one_rule(OVER, 1, 0), [1, 0, 0, 0, 1, -1])

    def test_kinds_with_the_same_account(self):
        self.assertEqual(one_rule(MOVE, 0, 0), [1, 0, 0, 0, 1, 0])
        self.assertEqual(one_rule(SHARE, 1, 1), [1, 0, 0, 0, 1, 0])
        self.assertEqual(one_rule(PULL, 0, 0), [1, 0, (3, 7), 0, 1, 0])

    def test_before_the_first_period(self):
        calls = [plan(2, 2, [1, -1], [(PAY, 0, 0, 0)]), put(1, 2, -3, 4)]
        found = ask(*calls, elastic(0, 0, 0), elastic(0, 1, 0), elastic(1, 0, 0), elastic(1, 1, 0))[2:]
        self.assertEqual(found, [[1, 0, 1], [1, 1, 1], [0], [0]])

    def test_for_long(self):
        # q over r, twenty times: by q it is 1, by r it is -20, whatever they are.
        calls = [plan(1, 2, [0], [(OVER, 0, 0, 1)]), put(-7, 3, -4, 6)]
        self.assertEqual(ask(*calls, elastic(0, 0, 20), elastic(0, 1, 20))[2:], [[1, 1, 1], [1, -20, 1]])

    def test_an_amount_of_0(self):
        # 3 - 3: the slopes are not 0.
        calls = [plan(1, 2, [0], [(PAY, 0, 0, 1)]), put(3, 1, 3, 1)]
        found = ask(*calls, elastic(0, 0, 1), elastic(0, 1, 1), elastic(0, 0, 2), elastic(0, 1, 2), elastic(0, 0, 0))
        self.assertEqual(found[2:], [[0], [0], [1, -1, 1], [1, 2, 1], [1, 1, 1]])

    def test_a_slope_of_0(self):
        calls = [plan(2, 2, [0, -1], [(MOVE, 1, 1, 1)]), put(3, 1, 5, 1)]
        self.assertEqual(ask(*calls, elastic(0, 1, 3), elastic(1, 1, 3))[2:], [[1, 0, 1], [0]])

    def test_a_value_of_0(self):
        calls = [plan(1, 2, [0], [(GROW, 0, 0, 1)]), put(3, 1, 0, 7)]
        self.assertEqual(ask(*calls, slopes(0, 2), elastic(0, 1, 2))[2:], [[2, 1, 1, 6, 1], [1, 0, 1]])

    def test_signs(self):
        for x, q in ((4, 9), (-4, 9), (4, -9), (-4, -9)):
            found = last(plan(1, 2, [0], [(PAY, 0, 0, 1)]), put(x, 1, q, 1), elastic(0, 1, 1))
            self.assertEqual(found, [1, 9, 5] if x * q > 0 else [1, 9, 13])
            found = last(plan(1, 2, [0], [(PAY, 0, 0, 1)]), put(x, 1, q, 1), elastic(0, 0, 1))
            self.assertEqual(found, [1, -4, 5] if x * q > 0 else [1, 4, 13])

    def test_great_values(self):
        calls = [plan(1, 2, [0], [(PAY, 0, 0, 1)]), put(-GREAT, 1, 1, GREAT)]
        found = last(*calls, elastic(0, 1, 1))
        self.assertEqual(found, [1, 1, GREAT * GREAT + 1])

    def test_told_weight(self):
        # Account 0 is 2 ** count after five periods, account 1 one more: its elasticity by the 1 has that below it.
        rules = [(GROW, 0, 0, 1)] * 5 + [(GROW, 1, 0, 2), (PULL, 1, 0, 3), (PAY, 1, 0, 4)]
        for count, fits in ((1498, True), (1499, False)):
            calls = [plan(2, 5, [0, -1], rules), put(2 ** (count - 1475), 1, 2 ** 59 - 1, 1, -1, 1, 1, 1, -1, 1)]
            found = ask(*calls, fault(5), run(4), elastic(1, 4, 5), elastic(1, 4, 4))[2:]
            amount = 2 ** (count - 295) + 1
            self.assertEqual(found[1], [2, amount - 1, 1, amount, 1])
            self.assertEqual(found[2], [1, 1, 2 ** count + 1] if fits else [-6])
            self.assertEqual(found[3], [1, 1, amount])

    def test_what_is_not_told_may_be_heavy(self):
        # The amount and its slopes are heavy, and what's told of them is not.
        calls = powers(0)
        found = ask(*calls, run(20), slopes(0, 20), elastic(0, 0, 20), elastic(0, 4, 20))[2:]
        self.assertEqual(found, [[-6], [-6], [1, 1, 1], [1, 5 * (2 ** 22 - 1), 2 ** 20]])
        # The amount is 0, its slope heavy.
        calls = [plan(1, 2, [0], [(GROW, 0, 0, 1)] * 5), put(0, 1, 2 ** 59 - 1, 1)]
        self.assertEqual(ask(*calls, slopes(0, 6), elastic(0, 0, 6), elastic(0, 1, 6))[2:], [[-6], [0], [0]])

    def test_accounts_and_parameters_that_are_not_there(self):
        # Three accounts and two parameters: 2 is an account and no parameter.
        calls = [plan(3, 2, [0, 1, 1], []), put(3, 1, 5, 1)]
        found = ask(*calls, elastic(2, 1, 0), elastic(1, 2, 0), elastic(3, 0, 0), elastic(0, 0, 20), elastic(0, 0, 21))
        self.assertEqual(found[2:], [[1, 1, 1], [-1], [-1], [1, 1, 1], [-1]])
        # None is there in a plan without parameters.
        self.assertEqual(last(plan(1, 0, [-1], []), put(), elastic(0, 0, 0)), [-1])


if __name__ == "__main__":
    unittest.main()
