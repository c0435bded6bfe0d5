"""Promise 12: code."""

import unittest

from asking import GREAT, GROW, MOVE, OVER, PAY, PULL, SHARE, ask, code, last, plan, put, run


def told(answer):
    """The lines of an answer as tuples, and the accounts' lines."""
    lines = []
    place = 1
    for line in range(answer[0]):
        length = 2 if answer[place] == 0 else 3
        lines.append(tuple(answer[place:place + length]))
        place += length
    return lines, answer[place:]


def one_rule(kind, a, b, t):
    """Two accounts that begin with the parameters 0 and 1, and one rule with 2: the lines from 5 on."""
    lines, accounts = told(last(plan(2, 3, [0, 1], [(kind, a, b, 2)]), code(t)))
    assert lines[:5] == [(0, 0), (0, 1), (0, 2), (1, 0, 1), (1, 1, 1)]
    return lines[5:], accounts


class CodeTest(unittest.TestCase):
    def test_example(self):
        found = last(plan(1, 3, [0], [(GROW, 0, 0, 1), (PAY, 0, 0, 2)]), code(1))
        self.assertEqual(found, [8, 0, 0, 0, 1, 0, 2, 1, 0, 1, 1, 1, 1, 2, 4, 1, 4, 0, 5, 3, 6, 2, 7])

    def test_no_periods(self):
        found = last(plan(3, 2, [1, -1, 0], [(GROW, 0, 0, 1)]), code(0))
        self.assertEqual(found, [4, 0, 0, 0, 1, 1, 0, 1, 1, 1, 1, 1, 2, 0])
        for kind in range(6):
            self.assertEqual(one_rule(kind, 0, 0, 0), ([], [0, 1]))

    def test_grow(self):
        self.assertEqual(one_rule(GROW, 0, 0, 1), ([(2, 4, 2), (4, 0, 5)], [6, 1]))
        self.assertEqual(one_rule(GROW, 1, 0, 2), ([(2, 4, 2), (4, 1, 5), (2, 4, 2), (4, 6, 7)], [0, 8]))

    def test_pay(self):
        self.assertEqual(one_rule(PAY, 0, 0, 1), ([(3, 0, 2)], [5, 1]))
        self.assertEqual(one_rule(PAY, 1, 0, 3), ([(3, 1, 2), (3, 5, 2), (3, 6, 2)], [0, 7]))

    def test_move(self):
        self.assertEqual(one_rule(MOVE, 0, 1, 1), ([(3, 0, 2), (2, 1, 2)], [5, 6]))
        self.assertEqual(one_rule(MOVE, 1, 0, 2), ([(3, 1, 2), (2, 0, 2), (3, 5, 2), (2, 6, 2)], [8, 7]))
        self.assertEqual(one_rule(MOVE, 0, 0, 2), ([(3, 0, 2), (2, 5, 2), (3, 6, 2), (2, 7, 2)], [8, 1]))

    def test_share(self):
        self.assertEqual(one_rule(SHARE, 0, 1, 1), ([(4, 0, 2), (3, 0, 5), (2, 1, 5)], [6, 7]))
        self.assertEqual(one_rule(SHARE, 1, 0, 2),
                         ([(4, 1, 2), (3, 1, 5), (2, 0, 5), (4, 6, 2), (3, 6, 8), (2, 7, 8)], [10, 9]))
        self.assertEqual(one_rule(SHARE, 1, 1, 1), ([(4, 1, 2), (3, 1, 5), (2, 6, 5)], [0, 7]))

    def test_pull(self):
        self.assertEqual(one_rule(PULL, 0, 1, 1), ([(4, 1, 2), (2, 0, 5)], [6, 1]))
        self.assertEqual(one_rule(PULL, 1, 0, 2), ([(4, 0, 2), (2, 1, 5), (4, 0, 2), (2, 6, 7)], [0, 8]))
        self.assertEqual(one_rule(PULL, 0, 0, 2), ([(4, 0, 2), (2, 0, 5), (4, 6, 2), (2, 6, 7)], [8, 1]))

    def test_over(self):
        self.assertEqual(one_rule(OVER, 0, 0, 1), ([(5, 0, 2)], [5, 1]))
        self.assertEqual(one_rule(OVER, 1, 0, 3), ([(5, 1, 2), (5, 5, 2), (5, 6, 2)], [0, 7]))

    def test_rules_in_order(self):
        rules = [(PAY, 1, 0, 1), (SHARE, 0, 1, 0), (GROW, 1, 0, 1), (PULL, 0, 1, 1), (MOVE, 1, 0, 0), (OVER, 0, 0, 0)]
        lines, accounts = told(last(plan(2, 2, [1, -1], rules), code(2)))
        first = [(0, 0), (0, 1), (1, 0, 1), (1, 1, 1),
                 (3, 2, 1), (4, 1, 0), (3, 1, 5), (2, 4, 5), (2, 3, 1), (4, 7, 8), (4, 9, 1), (2, 6, 10),
                 (3, 9, 0), (2, 11, 0), (5, 13, 0)]
        second = [(3, 12, 1), (4, 14, 0), (3, 14, 16), (2, 15, 16), (2, 3, 1), (4, 18, 19), (4, 20, 1), (2, 17, 21),
                  (3, 20, 0), (2, 22, 0), (5, 24, 0)]
        self.assertEqual(lines, first + second)
        self.assertEqual(accounts, [25, 23])

    def test_accounts_that_begin_alike(self):
        found = last(plan(4, 1, [0, -1, 0, -1], [(PAY, 2, 0, 0), (PAY, 3, 0, 0)]), code(1))
        self.assertEqual(found, [5, 0, 0, 1, 0, 1, 1, 1, 1, 3, 0, 0, 3, 1, 0, 0, 1, 3, 4])

    def test_without_rules(self):
        for t in (0, 1, 20):
            found = last(plan(2, 1, [0, -1], []), code(t))
            self.assertEqual(found, [3, 0, 0, 1, 0, 1, 1, 1, 1, 0, 1])

    def test_without_parameters(self):
        found = ask(plan(2, 0, [-1, -1], []), code(0), code(20))[1:]
        self.assertEqual(found, [[2, 1, 0, 1, 1, 1, 1, 0, 0]] * 2)

    def test_a_new_object(self):
        self.assertEqual(ask(code(0), code(20), code(21), code(-1)), [[2, 1, 0, 1, 1, 1, 1]] * 2 + [[-1]] * 2)

    def test_values_and_faults_do_not_count(self):
        calls = plan(1, 1, [0], [(OVER, 0, 0, 0)])
        told = [4, 0, 0, 1, 0, 1, 1, 1, 1, 5, 0, 0, 3]
        found = ask(calls, code(1), put(0, 1), code(1), run(1), put(5, 1), code(1), calls, code(1))
        self.assertEqual(found, [[1], told, [1], told, [-5], [1], told, [1], told])

    def test_the_longest(self):
        rules = [(SHARE, k % 6, (k + 1) % 6, k % 8) for k in range(10)]
        found = last(plan(6, 8, [0, 1, 2, 3, 4, 5], rules), code(20))
        self.assertEqual(found[0], 610)
        self.assertEqual(len(found), 1 + 8 * 2 + 602 * 3 + 6)
        lines, accounts = told(found)
        # The last period begins at line 580; its last rule shares account 3 with 4.
        self.assertEqual(lines[-3:], [(4, 606, 1), (3, 606, 607), (2, 593, 607)])
        self.assertEqual(accounts, [599, 602, 605, 608, 609, 596])

    def test_times(self):
        calls = plan(1, 1, [0], [(PAY, 0, 0, 0)])
        self.assertEqual(ask(calls, code(20))[1][-4:], [3, 21, 0, 22])
        for t in (-1, 21, GREAT, -GREAT):
            self.assertEqual(ask(calls, code(t), code(0))[1:], [[-1], [3, 0, 0, 1, 0, 1, 1, 1, 1, 0]])

    def test_a_refused_plan_leaves_it(self):
        calls = plan(1, 1, [0], [(PAY, 0, 0, 0)])
        found = ask(calls, code(1), plan(1, 1, [0], [(PAY, 0, 0, 1)]), plan(7, 1, [0], []), code(1))
        self.assertEqual(found[2:4], [[-2], [-1]])
        self.assertEqual(found[1], found[4])


if __name__ == "__main__":
    unittest.main()
