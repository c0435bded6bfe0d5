"""Promise 3: fault."""

import unittest

from asking import GREAT, GROW, MOVE, OVER, PAY, PULL, SHARE, ask, fault, last, plan, powers, put, run


class FaultTest(unittest.TestCase):
    def test_none(self):
        loan = [plan(1, 3, [0], [(GROW, 0, 0, 1), (PAY, 0, 0, 2)]), put(1000, 1, 1, 10, 300, 1)]
        self.assertEqual(ask(*loan, fault(0), fault(2), fault(20))[2:], [[0]] * 3)
        self.assertEqual(last(plan(1, 0, [-1], []), put(), fault(20)), [0])

    def test_division_by_0(self):
        rules = [(PAY, 0, 0, 0), (MOVE, 0, 1, 0), (OVER, 1, 0, 1), (OVER, 0, 0, 1)]
        found = ask(plan(2, 2, [0, -1], rules), put(5, 1, 0, 9), fault(0), fault(1), fault(2), fault(20))
        self.assertEqual(found[2:], [[0]] + [[1, 1, 3, 1]] * 3)

    def test_division_of_0_by_0(self):
        self.assertEqual(last(plan(1, 1, [-1], [(OVER, 0, 0, 0)]), put(0, 1), fault(1)), [1, 1, 1, 1])

    def test_a_parameter_0_elsewhere_is_no_fault(self):
        rules = [(GROW, 0, 0, 0), (PAY, 0, 0, 0), (MOVE, 0, 1, 0), (SHARE, 0, 1, 0), (PULL, 0, 1, 0)]
        self.assertEqual(last(plan(2, 1, [0, -1], rules), put(0, 1), fault(20)), [0])

    # Values stay as they are set, so a division by 0 is always in the first period; later faults are of weight.
    def test_the_first_rule_with_a_fault_is_told(self):
        divide = (OVER, 0, 0, 1)
        grow = (GROW, 0, 0, 0)
        for before in range(10):
            rules = [grow] * before + [divide] * (10 - before)
            found = last(plan(1, 2, [0], rules), put(GREAT, 1, 0, 1), fault(20))
            self.assertEqual(found, [1, 1, before + 1, 1])

    def test_weight_just_4000(self):
        self.assertEqual(ask(*powers(18), fault(20), run(20))[2:], [[0], [-6]])

    def test_weight_just_above_4000(self):
        found = ask(*powers(19), fault(19), fault(20), run(20), fault(19))
        self.assertEqual(found[2:], [[0], [1, 20, 4, 2], [-5], [0]])

    def test_weight_of_amounts_below_0(self):
        self.assertEqual(last(*powers(18, sign=-1), fault(20)), [0])
        self.assertEqual(last(*powers(19, sign=-1), fault(20)), [1, 20, 4, 2])

    def test_first_fault_is_told_for_all_longer_times(self):
        # 2 ** 59, times 2 ** 59 nine times a period: 67 factors have 3954 digits, 68 have 4013.
        # The 67th multiplication is the fourth of the eighth period.
        found = ask(plan(1, 2, [0], [(GROW, 0, 0, 1)] * 9), put(2 ** 59, 1, 2 ** 59 - 1, 1),
                    *[fault(t) for t in range(20, -1, -1)])
        self.assertEqual(found[2:], [[1, 8, 4, 2]] * 13 + [[0]] * 8)

    def test_weight_counts_numerator_and_denominator(self):
        # Each rule multiplies by (10 ** 9 + 1) over 10 ** 9.
        steps = 0
        weight = 0
        while weight <= 4000:
            steps += 1
            weight = ((10 ** 9 + 1) ** steps).bit_length() + (10 ** (9 * steps)).bit_length()
        period, place = divmod(steps - 1, 10)
        found = last(plan(1, 2, [0], [(GROW, 0, 0, 1)] * 10), put(1, 1, 1, 10 ** 9), fault(20))
        self.assertEqual(found, [1, period + 1, place + 1, 2])

    def test_weight_counts_denominators(self):
        # 1 over a power of 2: 1 digit, and those of the denominator.
        rules = [(OVER, 0, 0, 1)] * 3 + [(OVER, 0, 0, 2)]
        for b, told in ((18, [0]), (19, [1, 20, 4, 2])):
            found = last(plan(1, 3, [0], rules), put(1, 2 ** b, 2 ** 59, 1, 2 ** 22, 1), fault(20))
            self.assertEqual(found, told)

    def test_weight_is_that_of_lowest_terms(self):
        # Times 10 ** 18 over 10 ** 18 - 1, then over the same: unreduced it would soon be too heavy.
        rules = [(GROW, 0, 0, 1), (OVER, 0, 0, 2)] * 5
        values = put(7, 3, 1, GREAT - 1, GREAT, GREAT - 1)
        found = ask(plan(1, 3, [0], rules), values, fault(20), run(20))
        self.assertEqual(found[2:], [[0], [1, 7, 3]])

    def test_an_amount_of_0_is_light(self):
        rules = [(GROW, 0, 0, 0)] * 10
        found = ask(plan(1, 1, [-1], rules), put(GREAT - 1, GREAT), fault(20), run(20))
        self.assertEqual(found[2:], [[0], [1, 0, 1]])

    def test_the_share_is_a_line(self):
        # With a for b the amount is in the end what it was, and weighs 4000 in the last period.
        for q, told in ((1, [0]), (2, [1, 20, 5, 2]), (-1, [1, 20, 5, 2])):
            # Parameter 6 counts for nothing.
            found = last(*powers(18, [(SHARE, 0, 0, 5)], [q, 1, 3, 1]), fault(20))
            self.assertEqual(found, told)

    def test_both_changes_of_move_are_lines(self):
        for q, told in (([0, 1], [0]), ([1, 3], [1, 20, 5, 2])):
            found = last(*powers(18, [(MOVE, 0, 0, 5)], q), fault(20))
            self.assertEqual(found, told)
            # There and back, so that the amount is a whole number again in the next period.
            found = last(*powers(18, [(MOVE, 1, 0, 5), (MOVE, 0, 1, 5)], q, accounts=2), fault(20))
            self.assertEqual(found, told)

    def test_the_product_in_pull_is_a_line(self):
        # Account 1 is made -1, then pulls 2 ** 3999: that weighs 4001, and what it becomes weighs 4000.
        rules = [(GROW, 1, 0, 6), (PAY, 1, 0, 7), (PULL, 1, 0, 5)]
        for q, told in ((1, [0]), (2, [1, 20, 7, 2])):
            found = last(*powers(18, rules, [q, 1, -1, 1, 1, 1], accounts=2), fault(20))
            self.assertEqual(found, told)

    def test_what_pull_makes_is_a_line(self):
        rules = [(GROW, 1, 0, 5), (PAY, 1, 0, 6), (PULL, 1, 0, 7)]
        for paid, told in (([1, 1], [0]), ([1, 3], [1, 20, 7, 2])):
            found = last(*powers(18, rules, [-1, 1, *paid, 1, 1], accounts=2), fault(20))
            self.assertEqual(found, told)

    def test_what_pay_makes_is_a_line(self):
        for q, told in (([0, 1, 0, 1], [0]), ([1, 3, -1, 3], [1, 20, 5, 2])):
            found = last(*powers(18, [(PAY, 0, 0, 5), (PAY, 0, 0, 6)], q), fault(20))
            self.assertEqual(found, told)

    def test_grow_has_no_product_of_a_and_q(self):
        # 2 ** 3998 * (1 - 2) weighs 4000; 2 ** 3998 * -2, which is no line, weighs 4001.
        self.assertEqual(last(*powers(18, [(GROW, 0, 0, 5)], [-2, 1]), fault(20)), [0])

    def test_faults_of_other_accounts_count(self):
        found = last(*powers(19, [(PAY, 1, 0, 0)], accounts=2), fault(20))
        self.assertEqual(found, [1, 20, 4, 2])

    def test_refusals(self):
        for t in (-1, 21, GREAT, -GREAT):
            self.assertEqual(last(fault(t)), [-1])
            found = ask(plan(1, 1, [0], [(OVER, 0, 0, 0)]), fault(t), put(0, 1), fault(t), fault(1))
            self.assertEqual(found[1:], [[-1], [1], [-1], [1, 1, 1, 1]])
        self.assertEqual(ask(fault(0), plan(1, 1, [0], []), fault(20)), [[-4], [0], [-4]])


if __name__ == "__main__":
    unittest.main()
