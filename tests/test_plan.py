"""Promise 1: plan."""

import unittest

from asking import GREAT, GROW, MOVE, OVER, PAY, PULL, SHARE, ask, fault, last, plan, put, run, table

LOAN = plan(1, 3, [0], [(GROW, 0, 0, 1), (PAY, 0, 0, 2)])
LOAN_VALUES = put(1000, 1, 1, 10, 300, 1)


class PlanTest(unittest.TestCase):
    def refused(self, number, *call):
        """The call is refused, and a loan that was held before is held as it was."""
        self.assertEqual(last(plan(*call)), [number])
        found = ask(LOAN, LOAN_VALUES, plan(*call), run(2), table(0))
        self.assertEqual(found, [[2], [3], [number], [1, 580, 1], [1, 3, 1, 1, 0, 1, 0, 1]])

    def test_answers_how_many_rules(self):
        self.assertEqual(ask(LOAN), [[2]])
        self.assertEqual(last(plan(1, 0, [-1], [])), [0])
        for count in range(11):
            self.assertEqual(last(plan(2, 1, [0, -1], [(MOVE, 0, 1, 0)] * count)), [count])

    def test_held_plan_is_the_last_one(self):
        found = ask(LOAN, plan(2, 1, [-1, 0], [(MOVE, 1, 0, 0)]), put(5, 1), run(1))
        self.assertEqual(found[-1], [2, 5, 1, 0, 1])

    def test_a_plan_takes_the_values_away(self):
        self.assertEqual(ask(LOAN, LOAN_VALUES, LOAN, run(0), fault(0))[3:], [[-4], [-4]])

    def test_how_many_accounts(self):
        self.assertEqual(last(plan(1, 0, [-1], [])), [0])
        self.assertEqual(last(plan(6, 0, [-1] * 6, [])), [0])
        self.refused(-1, 0, 1, [], [])
        self.refused(-1, 7, 1, [0] * 7, [])
        self.refused(-1, -1, 1, [], [])
        self.refused(-1, GREAT, 1, [0], [])
        self.refused(-1, -GREAT, 1, [0], [])

    def test_how_many_parameters(self):
        self.assertEqual(last(plan(1, 0, [-1], [])), [0])
        self.assertEqual(last(plan(1, 8, [7], [(PAY, 0, 0, 7)])), [1])
        self.refused(-1, 1, -1, [-1], [])
        self.refused(-1, 1, 9, [0], [])
        self.refused(-1, 1, GREAT, [0], [])
        self.refused(-1, 1, -GREAT, [0], [])

    def test_begins_has_a_number_for_each_account(self):
        self.assertEqual(last(plan(3, 2, [-1, 0, 1], [])), [0])
        for begins in ([], [0], [0, 0, 0], [0] * 200):
            self.refused(-2, 2, 1, begins, [])

    def test_begins_has_parameters_or_minus_1(self):
        for wrong in (-2, 2, GREAT, -GREAT):
            for place in range(3):
                begins = [0, 1, -1]
                begins[place] = wrong
                self.refused(-2, 3, 2, begins, [])
        self.refused(-2, 1, 0, [0], [])

    def test_rules_are_fours(self):
        four = [MOVE, 0, 1, 0]
        for count in (1, 2, 3, 5, 6, 7, 39, 41, 43):
            self.refused(-2, 2, 1, [0, 0], (four * 11)[:count])

    def test_a_rule_has_a_kind(self):
        for kind in range(6):
            self.assertEqual(last(plan(2, 1, [0, 0], [(kind, 1, 0, 0)])), [1])
        for kind in (-1, 6, GREAT, -GREAT):
            self.refused(-2, 2, 1, [0, 0], [(kind, 1, 0, 0)])
            self.refused(-2, 2, 1, [0, 0], [(PAY, 0, 0, 0)] * 9 + [(kind, 1, 0, 0)])

    def test_a_rule_has_accounts_of_the_plan(self):
        for kind in range(6):
            for wrong in (-1, 2, GREAT, -GREAT):
                self.refused(-2, 2, 1, [0, 0], [(kind, wrong, 0, 0)])
                self.refused(-2, 2, 1, [0, 0], [(kind, 0, wrong, 0)])
        for kind in (MOVE, SHARE, PULL):
            self.assertEqual(last(plan(2, 1, [0, 0], [(kind, 0, 1, 0)])), [1])
            self.assertEqual(last(plan(2, 1, [0, 0], [(kind, 1, 1, 0)])), [1])

    def test_b_is_0_in_the_kinds_that_have_none(self):
        for kind in (GROW, PAY, OVER):
            self.refused(-2, 2, 1, [0, 0], [(kind, 0, 1, 0)])
            self.refused(-2, 2, 1, [0, 0], [(kind, 1, 1, 0)])

    def test_a_rule_has_a_parameter_of_the_plan(self):
        for kind in range(6):
            for wrong in (-1, 3, GREAT, -GREAT):
                self.refused(-2, 1, 3, [0], [(kind, 0, 0, wrong)])
        self.refused(-2, 1, 0, [-1], [(PAY, 0, 0, 0)])

    def test_at_most_10_rules(self):
        rule = (PULL, 0, 1, 0)
        self.assertEqual(last(plan(2, 1, [0, 0], [rule] * 10)), [10])
        self.refused(-7, 2, 1, [0, 0], [rule] * 11)
        self.refused(-7, 2, 1, [0, 0], [rule] * 50)

    def test_which_refusal_comes_first(self):
        rule = (PULL, 0, 1, 0)
        self.refused(-1, 7, 1, [0], [rule] * 11)
        self.refused(-1, 2, 9, [0, 9], [1])
        self.refused(-1, 0, 0, [], [GREAT] * 200)
        self.refused(-2, 2, 1, [0], [rule] * 11)
        self.refused(-2, 2, 1, [0, 1], [rule] * 50)
        self.refused(-2, 2, 1, [0, 0], [rule] * 10 + [(PULL, 0, 2, 0)])
        self.refused(-2, 2, 1, [0, 0], [rule] * 10 + [0, 0])

    def test_long_lists_of_great_numbers(self):
        self.refused(-2, 6, 8, [GREAT] * 200, [-GREAT] * 200)
        self.refused(-2, 6, 8, [-GREAT] * 200, [GREAT] * 200)
        self.refused(-2, 1, 1, [0], [GREAT] * 200)


if __name__ == "__main__":
    unittest.main()
