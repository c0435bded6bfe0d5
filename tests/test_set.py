"""Promise 2: set."""

import unittest

from asking import GREAT, PAY, ask, fault, last, path, plan, put, run, slopes, table

TWO = plan(2, 2, [0, 1], [(PAY, 0, 0, 1)])


class SetTest(unittest.TestCase):
    def refused(self, *numbers):
        """Refused whether or not there were values before, and these are as they were."""
        self.assertEqual(ask(TWO, put(*numbers), run(0))[1:], [[-2], [-4]])
        found = ask(TWO, put(3, 4, 5, 6), put(*numbers), run(1))
        self.assertEqual(found[2:], [[-2], [2, -1, 12, 5, 6]])

    def test_answers_how_many(self):
        self.assertEqual(last(TWO, put(1, 2, 3, 4)), [2])
        for count in range(9):
            self.assertEqual(last(plan(1, count, [-1], []), put(*[7, 3] * count)), [count])

    def test_values_are_the_last_ones(self):
        found = ask(TWO, put(1, 2, 3, 4), run(0), put(5, 6, 7, 8), run(0), run(1))
        self.assertEqual(found[2:], [[2, 1, 2, 3, 4], [2], [2, 5, 6, 7, 8], [2, -1, 24, 7, 8]])

    def test_fractions_need_not_be_in_lowest_terms(self):
        found = ask(TWO, put(6, 4, -10, 100), run(0), slopes(0, 1))
        self.assertEqual(found[1:], [[2], [2, 3, 2, -1, 10], [2, 1, 1, -1, 1]])
        self.assertEqual(last(TWO, put(0, 7, GREAT, GREAT), run(0)), [2, 0, 1, 1, 1])

    def test_fractions_may_be_0_or_below(self):
        self.assertEqual(last(TWO, put(0, 1, -3, 7), run(0)), [2, 0, 1, -3, 7])

    def test_great_numbers(self):
        found = ask(TWO, put(GREAT, 1, -GREAT, 1), run(1), put(1, GREAT, GREAT, GREAT - 1), run(0))
        self.assertEqual(found[1:], [[2], [2, 2 * GREAT, 1, -GREAT, 1], [2], [2, 1, GREAT, GREAT, GREAT - 1]])

    def test_as_many_as_parameters(self):
        for count in (0, 1, 2, 3, 5, 6, 7, 8, 200):
            self.refused(*[1] * count)

    def test_denominators_are_1_or_more(self):
        for wrong in (0, -1, -GREAT):
            self.refused(1, wrong, 1, 1)
            self.refused(1, 1, 1, wrong)
            self.refused(0, 1, 0, wrong)

    def test_long_lists_of_great_numbers(self):
        self.refused(*[GREAT] * 200)
        self.refused(*[-GREAT] * 200)

    def test_no_parameters(self):
        none = plan(1, 0, [-1], [])
        self.assertEqual(ask(none, run(0), put(), run(20))[1:], [[-4], [0], [1, 0, 1]])
        self.assertEqual(ask(none, put(1, 1), run(0))[1:], [[-2], [-4]])

    def test_new_object(self):
        found = ask(put(1, 1), run(0), fault(0), table(0), put(), run(3), fault(3), table(3), path(0, 0), slopes(0, 0))
        self.assertEqual(found, [[-2], [-4], [-4], [-4], [0], [0], [0], [0, 0], [-1], [-1]])


if __name__ == "__main__":
    unittest.main()
