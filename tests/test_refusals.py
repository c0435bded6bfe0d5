"""Which refusal is answered by the calls 7 to 13 where one or more are due, and that nothing is changed by it."""

import unittest

from asking import (GREAT, GROW, MOVE, OVER, PAY, aim, ask, code, elastic, fault, first, path, plan, pull, put, run,
                    slopes, table, total, what_if)

# Two accounts, three parameters: 0 is moved from account 0, which grows by 1, to account 1, which is divided by 2.
PLAN = plan(2, 3, [0, -1], [(GROW, 0, 0, 1), (MOVE, 0, 1, 0), (OVER, 1, 0, 2)])
GOOD = put(6, 2, 1, 2, 4, 1)
DIVIDES_BY_0 = put(3, 1, 1, 2, 0, 1)
# Each period multiplies account 0 by a fraction with some 120 digits: 15 periods make it and its slopes too heavy.
HEAVY = put(1, 1, GREAT - 1, GREAT - 3, 4, 1)

GOOD_WEIGHTS = (1, 1, 1, 1)
GOOD_VALUES = (3, 1, 1, 2, 5, 1)
GOOD_TARGET = (1, 3)
ODD = (1, 1, 1)
NONE = ()
BELOW_0 = (1, -1)

# Calls with all in order but for t; with a wrong list where they have one; with something that is not there.
RIGHT = [
    lambda t: pull(t, *GOOD_WEIGHTS),
    lambda t: elastic(0, 0, t),
    lambda t: what_if(0, t, *GOOD_VALUES),
    lambda t: aim(0, 0, t, *GOOD_TARGET),
    lambda t: first(0, t, *GOOD_TARGET),
    lambda t: total(t),
]
WRONG_LISTS = [call for numbers in (ODD, NONE, BELOW_0, (1, 0), (1, 1) * 4, (1,) * 200) for call in (
    lambda t, numbers=numbers: pull(t, *numbers),
    lambda t, numbers=numbers: what_if(0, t, *numbers),
    lambda t, numbers=numbers: aim(0, 0, t, *numbers),
    lambda t, numbers=numbers: first(0, t, *numbers),
)]
NOT_THERE = [call for k in (-1, 8, GREAT, -GREAT) for numbers in (GOOD_TARGET, GOOD_VALUES, ODD, NONE) for call in (
    lambda t, k=k: elastic(k, 0, t),
    lambda t, k=k: elastic(0, k, t),
    lambda t, k=k, numbers=numbers: what_if(k, t, *numbers),
    lambda t, k=k, numbers=numbers: aim(k, 0, t, *numbers),
    lambda t, k=k, numbers=numbers: aim(0, k, t, *numbers),
    lambda t, k=k, numbers=numbers: first(k, t, *numbers),
)]
WRONG_TIMES = (-1, 21, GREAT, -GREAT)
# What shows the plan and the values.
SEEN = [code(3), fault(20), run(3), table(3), path(0, 5)]


class RefusalTest(unittest.TestCase):
    def same_answers(self, state, calls, told):
        """Each call is answered as told, and all is as it was before it."""
        for call in calls:
            found = ask(*state, *SEEN, call, *SEEN)[len(state):]
            self.assertEqual(found[len(SEEN)], told, call)
            self.assertEqual(found[:len(SEEN)], found[len(SEEN) + 1:])

    def test_nothing_to_refuse(self):
        for call in RIGHT:
            for t in (0, 3, 20):
                self.assertGreaterEqual(ask(PLAN, GOOD, call(t))[2][0], 0)

    def test_a_new_object(self):
        self.same_answers([], [pull(t) for t in (0, 20)] + [total(t) for t in (0, 20)], [-4])
        self.same_answers([], [pull(0, 1, 1), pull(20, 1)], [-2])
        self.same_answers([], [call(0) for call in RIGHT[1:5] + NOT_THERE] + [call(21) for call in RIGHT], [-1])

    def test_values_on_a_new_object(self):
        state = [put()]
        self.same_answers(state, [pull(3)], [0])
        self.same_answers(state, [total(3)], [1, 0, 1])
        self.same_answers(state, [pull(3, 1, 1)], [-2])
        self.same_answers(state, [call(3) for call in RIGHT[1:5]], [-1])

    def test_times(self):
        for state in ([], [PLAN], [PLAN, GOOD], [PLAN, DIVIDES_BY_0], [PLAN, HEAVY]):
            for t in WRONG_TIMES:
                calls = [call(t) for call in RIGHT + WRONG_LISTS + NOT_THERE] + [code(t)]
                self.same_answers(state, calls, [-1])

    def test_what_is_not_there(self):
        for state in ([], [PLAN], [PLAN, GOOD], [PLAN, DIVIDES_BY_0], [PLAN, HEAVY]):
            self.same_answers(state, [call(10) for call in NOT_THERE], [-1])

    def test_wrong_lists(self):
        for state in ([PLAN], [PLAN, GOOD], [PLAN, DIVIDES_BY_0], [PLAN, HEAVY]):
            for t in (0, 1, 20):
                self.same_answers(state, [call(t) for call in WRONG_LISTS], [-2])

    def test_no_values(self):
        for t in (0, 1, 20):
            self.same_answers([PLAN], [call(t) for call in RIGHT], [-4])
            self.same_answers([PLAN, GOOD, PLAN], [call(t) for call in RIGHT], [-4])
            self.same_answers([PLAN, put(1, 1)], [call(t) for call in RIGHT], [-4])

    def test_faults(self):
        for t in (1, 2, 20):
            self.same_answers([PLAN, DIVIDES_BY_0], [call(t) for call in RIGHT], [-5])
            others = (3, 1, 1, 2, 0, 1)
            self.same_answers([PLAN, GOOD], [what_if(0, t, *others)], [-5])
            self.same_answers([PLAN], [what_if(0, t, *others)], [-4])
            self.same_answers([PLAN, DIVIDES_BY_0], [what_if(0, t, *others)], [-5])
        for call in RIGHT:
            self.assertGreaterEqual(ask(PLAN, DIVIDES_BY_0, call(0))[2][0], 0)

    def test_too_heavy(self):
        self.assertEqual(ask(PLAN, HEAVY, fault(15), run(15), slopes(0, 15))[2:], [[0], [-6], [-6]])
        calls = [pull(15, *GOOD_WEIGHTS), elastic(0, 1, 15), what_if(0, 15, *GOOD_VALUES), aim(0, 0, 15, 1, 3), total(15)]
        self.same_answers([PLAN, HEAVY], calls, [-6])

    def test_a_fault_comes_before_a_heavy_fraction(self):
        rules = [(GROW, 0, 0, 1), (PAY, 0, 0, 0), (OVER, 1, 0, 2)]
        state = [plan(2, 3, [0, -1], rules)]
        heavy = put(1, 1, GREAT - 1, GREAT - 3, 4, 1)
        both = put(1, 1, GREAT - 1, GREAT - 3, 0, 1)
        calls = [pull(15, *GOOD_WEIGHTS), elastic(0, 1, 15), what_if(0, 15, *GOOD_VALUES), aim(0, 0, 15, 1, 3), total(15)]
        self.same_answers(state + [heavy], calls, [-6])
        self.same_answers(state + [both], calls, [-5])
        self.same_answers(state + [heavy], [what_if(0, 15, 3, 1, 1, 2, 0, 1)], [-5])


if __name__ == "__main__":
    unittest.main()
