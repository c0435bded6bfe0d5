"""The interface: how calls are told, how answers are given back, and what is kept."""

import unittest

from asking import GREAT, ask, fault, path, plan, put, run, slopes, split, table
from slopeplan.accounts import answers

EXAMPLE = [0, 1, 3, 1, 0, 8, 0, 0, 0, 1, 1, 0, 0, 2, 1, 6, 1000, 1, 1, 10, 300, 1, 3, 2, 4, 0, 2, 5, 0, 2]
EXAMPLE_ANSWERS = [1, 2, 1, 3, 3, 1, 580, 1, 7, 3, 1000, 1, 800, 1, 580, 1, 7, 3, 121, 100, 1900, 1, -21, 10]


class InterfaceTest(unittest.TestCase):
    def test_example(self):
        self.assertEqual(answers(EXAMPLE), EXAMPLE_ANSWERS)

    def test_table_and_fault_of_the_example(self):
        self.assertEqual(answers(EXAMPLE[:22] + [6, 1, 2, 20]), [1, 2, 1, 3, 8, 1, 3, 11, 10, 1000, 1, -1, 1, 1, 0])

    def test_a_refusal_is_its_number_alone(self):
        self.assertEqual(answers([3, 0]), [1, -4])
        self.assertEqual(answers([2, 21, 0, 0, 0, 0, 0, 4, 0, 0, 1, 2, 0, 1]), [1, -1, 1, -1, 1, -1, 1, -2])

    def test_a_new_object(self):
        self.assertEqual(ask(fault(0), run(0), path(0, 0), slopes(0, 0), table(0), put(), fault(20), run(20), table(20)),
                         [[-4], [-4], [-1], [-1], [-4], [0], [0], [0], [0, 0]])

    def test_nothing_is_kept_from_one_time_to_the_next(self):
        first = answers(list(EXAMPLE))
        self.assertEqual(answers([3, 2, 2, 0]), [1, -4, 1, -4])
        self.assertEqual(answers(list(EXAMPLE)), first)
        first.append(0)
        self.assertEqual(answers(list(EXAMPLE)), EXAMPLE_ANSWERS)

    def test_what_is_handed_in_is_not_changed(self):
        calls = EXAMPLE + [0, 7, 0, 0, 0, 1, 2, 2, 4, 3, 1, 6, 2]
        before = list(calls)
        answers(calls)
        self.assertEqual(calls, before)

    def test_a_second_time_of_asking_in_one_line(self):
        asked = [fault(20), run(20), path(0, 3), slopes(0, 7), table(5), run(21), path(1, 0)]
        loan = [EXAMPLE[:14], EXAMPLE[14:22]]
        found = ask(*loan, *asked, *asked, *reversed(asked))[2:]
        self.assertEqual(found[:7], found[7:14])
        self.assertEqual(found[:7], found[:13:-1])

    def test_400_calls(self):
        calls = EXAMPLE[:22] + [3, 2] * 398
        found = split(answers(calls))
        self.assertEqual(found, [[2], [3]] + [[1, 580, 1]] * 398)

    def test_400_long_tables(self):
        rules = [(4, k % 6, (k + 1) % 6, k % 8) for k in range(10)]
        values = [3, 97, -2, 89, 5, 83, 7, 79, 1, 73, 2, 71, 4, 67, -9, 61]
        found = ask(plan(6, 8, [0, 1, 2, 3, 4, 5], rules), put(*values), *[table(k % 21) for k in range(398)])
        self.assertEqual(found[2], found[23])
        self.assertEqual(len(found[22]), 98)

    def test_lists_of_200_numbers(self):
        wide = plan(1, 1, [0] * 200, [0] * 200)
        found = ask(wide, put(*[1] * 200), put(*[-GREAT] * 200), plan(1, 1, [0], [0] * 200), run(0))
        self.assertEqual(found, [[-2], [-2], [-2], [-7], [-4]])


if __name__ == "__main__":
    unittest.main()
