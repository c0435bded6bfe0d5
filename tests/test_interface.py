"""The interface: how calls are told, how answers are given back, and what is kept."""

import unittest

from asking import (GREAT, aim, ask, code, elastic, fault, first, path, plan, pull, put, run, slopes, split, table,
                    total, what_if)
from slopeplan.accounts import answers

EXAMPLE = [0, 1, 3, 1, 0, 8, 0, 0, 0, 1, 1, 0, 0, 2, 1, 6, 1000, 1, 1, 10, 300, 1, 3, 2, 4, 0, 2, 5, 0, 2, 8, 0, 0, 2,
           9, 0, 2, 6, 1000, 1, 1, 5, 300, 1, 10, 0, 2, 2, 2, 0, 1, 11, 0, 2, 2, 900, 1, 13, 1]
EXAMPLE_ANSWERS = [1, 2, 1, 3, 3, 1, 580, 1, 7, 3, 1000, 1, 800, 1, 580, 1, 7, 3, 121, 100, 1900, 1, -21, 10, 3, 1, 121,
                   58, 7, 3, 780, 1, 770, 1, 10, 1, 5, 2, 12100, 21, 0, 1, 4, 1, 1, 800, 1, 23, 8, 0, 0, 0, 1, 0, 2, 1,
                   0, 1, 1, 1, 1, 2, 4, 1, 4, 0, 5, 3, 6, 2, 7]
LOAN = [EXAMPLE[:14], EXAMPLE[14:22]]
# One of each call from fault on; all have something to tell of the loan.
EACH = [fault(20), run(20), path(0, 3), slopes(0, 7), table(5), pull(4, -2, 6), elastic(0, 1, 3),
        what_if(0, 2, 1200, 1, 1, 2, 100, 1), aim(0, 2, 5, 1, 3), first(0, 9, 5, 1), total(6), code(2)]
REFUSED = [fault(21), run(-1), path(1, 0), slopes(-1, 0), table(21), pull(4, 1), elastic(0, 3, 0), what_if(0, 2, 1, 1),
           aim(0, 2, 5, 1, 0), first(0, 9, 5), total(21), code(-1), put(1, 1), plan(7, 0, [], [])]


class InterfaceTest(unittest.TestCase):
    def test_example(self):
        self.assertEqual(answers(EXAMPLE), EXAMPLE_ANSWERS)

    def test_table_and_fault_of_the_example(self):
        self.assertEqual(answers(EXAMPLE[:22] + [6, 1, 2, 20]), [1, 2, 1, 3, 8, 1, 3, 11, 10, 1000, 1, -1, 1, 1, 0])

    def test_a_refusal_is_its_number_alone(self):
        self.assertEqual(answers([3, 0]), [1, -4])
        self.assertEqual(answers([2, 21, 0, 0, 0, 0, 0, 4, 0, 0, 1, 2, 0, 1]), [1, -1, 1, -1, 1, -1, 1, -2])

    def test_each_call_has_as_many_numbers_as_are_told(self):
        # run stands behind each: it is only found where the call before it ends.
        calls = [call for one in EACH + REFUSED for call in (one, run(2))]
        found = ask(*LOAN, *calls)[2:]
        self.assertEqual(found[1::2], [[1, 580, 1]] * len(EACH + REFUSED))
        self.assertTrue(all(answer[0] >= 0 for answer in found[:2 * len(EACH):2]))
        self.assertTrue(all(len(answer) == 1 and answer[0] < 0 for answer in found[2 * len(EACH)::2]))

    def test_a_new_object(self):
        self.assertEqual(ask(fault(0), run(0), path(0, 0), slopes(0, 0), table(0), put(), fault(20), run(20), table(20)),
                         [[-4], [-4], [-1], [-1], [-4], [0], [0], [0], [0, 0]])

    def test_nothing_is_kept_from_one_time_to_the_next(self):
        first = answers(list(EXAMPLE))
        self.assertEqual(answers([3, 2, 2, 0]), [1, -4, 1, -4])
        self.assertEqual(answers(list(EXAMPLE)), first)
        first.append(0)
        self.assertEqual(answers(list(EXAMPLE)), EXAMPLE_ANSWERS)

    def test_what_is_handed_in_is_not_changed(self):
        calls = EXAMPLE + [0, 7, 0, 0, 0, 1, 2, 2, 4, 3, 1, 6, 2] + [n for call in EACH + REFUSED for n in call]
        before = list(calls)
        answers(calls)
        self.assertEqual(calls, before)

    def test_a_second_time_of_asking_in_one_line(self):
        asked = EACH + REFUSED
        count = len(asked)
        found = ask(*LOAN, *asked, *asked, *reversed(asked))[2:]
        self.assertEqual(found[:count], found[count:2 * count])
        self.assertEqual(found[:count], found[:2 * count - 1:-1])

    def test_a_second_time_of_asking_from_anew(self):
        line = [number for call in LOAN + EACH + REFUSED for number in call]
        told = answers(line)
        told_again = answers(line)
        self.assertEqual(told, told_again)
        self.assertIsNot(told, told_again)

    def test_400_calls(self):
        calls = EXAMPLE[:22] + [3, 2] * 398
        found = split(answers(calls))
        self.assertEqual(found, [[2], [3]] + [[1, 580, 1]] * 398)

    def test_400_long_tables(self):
        rules = [(4, k % 6, (k + 1) % 6, k % 8) for k in range(10)]
        values = [3, 97, -2, 89, 5, 83, 7, 79, 1, 73, 2, 71, 4, 67, -9, 61]
        found = ask(plan(6, 8, [0, 1, 2, 3, 4, 5], rules), put(*values), *[table(k % 21) for k in range(398)])
        self.assertEqual(found[2], found[23])
        self.assertEqual(len(found[22]), 98)

    def test_400_calls_of_each(self):
        for call in EACH:
            found = ask(*LOAN, *[call] * 398)[2:]
            self.assertEqual(found, [found[0]] * 398)

    def test_400_times_other_values(self):
        rules = [(4, k % 6, (k + 1) % 6, k % 8) for k in range(10)]
        values = [3, 97, -2, 89, 5, 83, 7, 79, 1, 73, 2, 71, 4, 67, -9, 61]
        calls = [plan(6, 8, [0, 1, 2, 3, 4, 5], rules), put(*values)]
        calls += [what_if(k % 6, 6, *values[:-1], k + 1) for k in range(398)]
        found = ask(*calls)[2:]
        self.assertEqual([answer[0] for answer in found], [3] * 398)
        # With -9/61 as the last value it is all as set.
        self.assertEqual(found[60][1:3], found[60][3:5])
        self.assertEqual(found[60][5:], [0, 1])

    def test_lists_of_200_numbers(self):
        wide = plan(1, 1, [0] * 200, [0] * 200)
        found = ask(wide, put(*[1] * 200), put(*[-GREAT] * 200), plan(1, 1, [0], [0] * 200), run(0))
        self.assertEqual(found, [[-2], [-2], [-2], [-7], [-4]])


if __name__ == "__main__":
    unittest.main()
