"""Promise 5: slopes and table."""

import unittest

from asking import (GREAT, GROW, MOVE, OVER, PAY, PULL, SHARE, ask, fault, last, path, plan, powers, put, run, slopes,
                    table)

LOAN = [plan(1, 3, [0], [(GROW, 0, 0, 1), (PAY, 0, 0, 2)]), put(1000, 1, 1, 10, 300, 1)]


def one_rule(kind, a, b):
    """The table of two accounts, 5/2 and 7/3, and one rule with the value 3/4, after one period."""
    return last(plan(2, 3, [0, 1], [(kind, a, b, 2)]), put(5, 2, 7, 3, 3, 4), table(1))


def cells(*rows):
    """A table of 2 accounts and 3 parameters; whole numbers stand for themselves over 1."""
    found = [2, 3]
    for cell in [cell for row in rows for cell in row]:
        found.extend(cell if isinstance(cell, tuple) else (cell, 1))
    return found


class SlopesTest(unittest.TestCase):
    def test_example(self):
        found = ask(*LOAN, slopes(0, 2), table(2))
        self.assertEqual(found[2:], [[3, 121, 100, 1900, 1, -21, 10], [1, 3, 121, 100, 1900, 1, -21, 10]])

    def test_before_the_first_period(self):
        found = ask(plan(3, 2, [1, -1, 1], [(PAY, 0, 0, 0)]), put(1, 2, 3, 4), table(0), slopes(0, 0), slopes(1, 0))
        self.assertEqual(found[2], [3, 2, 0, 1, 1, 1, 0, 1, 0, 1, 0, 1, 1, 1])
        self.assertEqual(found[3:], [[2, 0, 1, 1, 1], [2, 0, 1, 0, 1]])

    def test_grow(self):
        self.assertEqual(one_rule(GROW, 0, 0), cells([(7, 4), 0, (5, 2)], [0, 1, 0]))
        self.assertEqual(one_rule(GROW, 1, 0), cells([1, 0, 0], [0, (7, 4), (7, 3)]))

    def test_pay(self):
        self.assertEqual(one_rule(PAY, 0, 0), cells([1, 0, -1], [0, 1, 0]))
        self.assertEqual(one_rule(PAY, 1, 0), cells([1, 0, 0], [0, 1, -1]))

    def test_move(self):
        self.assertEqual(one_rule(MOVE, 0, 1), cells([1, 0, -1], [0, 1, 1]))
        self.assertEqual(one_rule(MOVE, 1, 0), cells([1, 0, 1], [0, 1, -1]))
        self.assertEqual(one_rule(MOVE, 0, 0), cells([1, 0, 0], [0, 1, 0]))

    def test_share(self):
        self.assertEqual(one_rule(SHARE, 0, 1), cells([(1, 4), 0, (-5, 2)], [(3, 4), 1, (5, 2)]))
        self.assertEqual(one_rule(SHARE, 1, 0), cells([1, (3, 4), (7, 3)], [0, (1, 4), (-7, 3)]))
        self.assertEqual(one_rule(SHARE, 1, 1), cells([1, 0, 0], [0, 1, 0]))

    def test_pull(self):
        self.assertEqual(one_rule(PULL, 0, 1), cells([1, (3, 4), (7, 3)], [0, 1, 0]))
        self.assertEqual(one_rule(PULL, 1, 0), cells([1, 0, 0], [(3, 4), 1, (5, 2)]))
        self.assertEqual(one_rule(PULL, 0, 0), cells([(7, 4), 0, (5, 2)], [0, 1, 0]))

    def test_over(self):
        self.assertEqual(one_rule(OVER, 0, 0), cells([(4, 3), 0, (-40, 9)], [0, 1, 0]))
        self.assertEqual(one_rule(OVER, 1, 0), cells([1, 0, 0], [0, (4, 3), (-112, 27)]))
        # 1 over 1/4, and over -1/4: 4 and -4, with the slopes -16.
        for q in (1, -1):
            found = last(plan(1, 2, [0], [(OVER, 0, 0, 1)]), put(1, 1, q, 4), slopes(0, 1))
            self.assertEqual(found, [2, 4 * q, 1, -16, 1])
        # 5/2 over the square of -3/4: the slope is -2 * 5/2 over the third power.
        found = last(plan(1, 2, [0], [(OVER, 0, 0, 1)]), put(5, 2, -3, 4), slopes(0, 2))
        self.assertEqual(found, [2, 16, 9, 320, 27])

    def test_a_parameter_that_is_both_beginning_and_rate(self):
        # q * (1 + q) ** 2 at 1/2: (1 + q) ** 2 + 2 * q * (1 + q).
        found = last(plan(1, 1, [0], [(GROW, 0, 0, 0)]), put(1, 2), slopes(0, 2))
        self.assertEqual(found, [1, 15, 4])
        # q over q is 1, whatever q is.
        found = ask(plan(1, 1, [0], [(OVER, 0, 0, 0)]), put(7, 5), run(1), slopes(0, 1), slopes(0, 2))
        self.assertEqual(found[2:], [[1, 1, 1], [1, 0, 1], [1, -25, 49]])

    def test_slopes_where_the_value_is_0(self):
        rules = [(GROW, 0, 0, 0), (SHARE, 0, 1, 0), (PULL, 2, 0, 0)]
        found = last(plan(3, 2, [1, -1, -1], rules), put(0, 1, 5, 1), table(1))
        self.assertEqual(found, [3, 2, 0, 1, 1, 1, 5, 1, 0, 1, 5, 1, 0, 1])

    def test_slopes_of_an_amount_that_is_0(self):
        found = ask(plan(1, 2, [0], [(PAY, 0, 0, 1)]), put(3, 1, 3, 1), run(1), slopes(0, 1))
        self.assertEqual(found[2:], [[1, 0, 1], [2, 1, 1, -1, 1]])

    def test_a_parameter_that_does_not_count(self):
        found = last(plan(1, 8, [3], [(PAY, 0, 0, 5)]), put(*[2, 3] * 8), slopes(0, 20))
        self.assertEqual(found, [8] + [0, 1] * 3 + [1, 1] + [0, 1] + [-20, 1] + [0, 1] * 2)

    def test_table_is_the_slopes_row_after_row(self):
        rules = [(GROW, 0, 0, 1), (SHARE, 0, 1, 2), (PULL, 2, 1, 0), (OVER, 2, 0, 3), (MOVE, 2, 0, 1)]
        calls = [plan(3, 4, [0, -1, 3], rules), put(9, 4, -2, 5, 1, 3, 8, 7)]
        for t in (0, 1, 2, 7):
            found = ask(*calls, table(t), slopes(0, t), slopes(1, t), slopes(2, t))[2:]
            self.assertEqual(found[0], [3, 4] + found[1][1:] + found[2][1:] + found[3][1:])
            self.assertEqual([row[0] for row in found[1:]], [4, 4, 4])

    def test_no_parameters(self):
        found = ask(plan(2, 0, [-1, -1], []), put(), table(20), slopes(1, 20))
        self.assertEqual(found[2:], [[2, 0], [0]])

    def test_greatest_table(self):
        found = last(plan(6, 8, [0, 1, 2, 3, 4, 5], []), put(*[1, 3] * 8), table(20))
        self.assertEqual(len(found), 2 + 2 * 48)


class RefusalTest(unittest.TestCase):
    def test_times(self):
        for t in (-1, 21, GREAT, -GREAT):
            found = ask(*LOAN, slopes(0, t), table(t), slopes(0, 2))
            self.assertEqual(found[2:], [[-1], [-1], [3, 121, 100, 1900, 1, -21, 10]])
            self.assertEqual(ask(table(t), LOAN[0], slopes(0, t), table(t)), [[-1], [2], [-1], [-1]])
        self.assertEqual([len(found) for found in ask(*LOAN, slopes(0, 20), table(20))[2:]], [7, 8])

    def test_accounts(self):
        for a in (-1, 1, GREAT, -GREAT):
            found = ask(LOAN[0], slopes(a, 0), LOAN[1], slopes(a, 0), slopes(0, 0))
            self.assertEqual(found[1:], [[-1], [3], [-1], [3, 1, 1, 0, 1, 0, 1]])

    def test_no_values(self):
        self.assertEqual(ask(table(0), slopes(0, 0)), [[-4], [-1]])
        self.assertEqual(ask(LOAN[0], table(20), slopes(0, 0))[1:], [[-4], [-4]])

    def test_faults(self):
        found = ask(plan(2, 1, [0, -1], [(OVER, 1, 0, 0)]), put(0, 1), table(0), table(1), slopes(0, 1), slopes(0, 20),
                    slopes(2, 1), table(21), slopes(0, 0))
        self.assertEqual(found[2:], [[2, 1, 1, 1, 0, 1], [-5], [-5], [-5], [-1], [-1], [1, 1, 1]])
        found = ask(*powers(19, accounts=2), slopes(1, 19), slopes(1, 20), table(20), slopes(0, 19))
        self.assertEqual(found[2:], [[5] + [0, 1] * 5, [-5], [-5], [-6]])

    def test_told_weight(self):
        # Both amounts are always 0. By parameter 0, the slope of account 0 is 2 ** (214 * t) after t periods, and
        # account 1 pulls it q times in each: 1500 digits over 1 if q is 2, one less if it is 1.
        rules = [(GROW, 0, 0, 1)] * 3 + [(GROW, 0, 0, 2), (PULL, 1, 0, 3)]
        pulled = sum(2 ** (214 * t) for t in range(1, 8))
        first = [2 ** 1498, 1, 0, 1, 0, 1, 0, 1]
        second = [pulled, 1, 0, 1, 0, 1, 0, 1]
        light, heavy = [[plan(2, 4, [0, -1], rules), put(0, 1, 2 ** 59 - 1, 1, 2 ** 37 - 1, 1, q, 1)] for q in (1, 2)]
        found = ask(*light, slopes(0, 7), slopes(1, 7), table(7))[2:]
        self.assertEqual(found, [[4] + first, [4] + second, [2, 4] + first + second])
        found = ask(*heavy, slopes(0, 7), slopes(1, 7), table(7), run(20), fault(20))[2:]
        self.assertEqual(found, [[4] + first, [-6], [-6], [2, 0, 1, 0, 1], [0]])

    def test_only_what_is_told_counts(self):
        # Account 0 is 1 over 2 ** 1593, and so is its slope by parameter 0; account 1 stays light.
        rules = [(OVER, 0, 0, 1)] * 9
        found = ask(plan(2, 3, [0, 2], rules), put(1, 1, 2 ** 59, 1, 5, 1), run(3), path(0, 3), slopes(0, 3),
                    slopes(1, 3), table(3))[2:]
        self.assertEqual(found, [[-6], [-6], [-6], [3, 0, 1, 0, 1, 1, 1], [-6]])
        # Account 0 is 2 ** 3980; only account 1 is paid from.
        found = ask(*powers(0, [(PAY, 1, 0, 5)], [1, 1], accounts=2), run(20), slopes(1, 20), slopes(0, 20))[2:]
        self.assertEqual(found, [[-6], [6] + [0, 1] * 5 + [-20, 1], [-6]])


if __name__ == "__main__":
    unittest.main()
