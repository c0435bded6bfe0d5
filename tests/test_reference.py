"""Promises 3 to 5 on many plans, beside the document's words done line by line."""

import random
import unittest
from fractions import Fraction

from asking import GREAT, ask, fault, path, plan, put, run, slopes, table
from reference import expected


def some_value(source, size):
    if source.random() < 0.1:
        return Fraction(0)
    return Fraction(source.randint(-size, size), source.randint(1, size))


def some_plan(source):
    accounts = source.randint(1, 6)
    parameters = source.randint(1, 8)
    begins = [source.randint(-1, parameters - 1) for a in range(accounts)]
    rules = []
    for place in range(source.randint(0, 10)):
        kind = source.randint(0, 5)
        b = source.randrange(accounts) if kind in (2, 3, 4) else 0
        rules.append((kind, source.randrange(accounts), b, source.randrange(parameters)))
    return parameters, begins, rules


class ReferenceTest(unittest.TestCase):
    def compare(self, seed, count, size, longest):
        source = random.Random(seed)
        for number in range(count):
            parameters, begins, rules = some_plan(source)
            accounts = len(begins)
            calls = [plan(accounts, parameters, begins, rules)]
            told = [[len(rules)]]
            for values in range(2):
                values = [some_value(source, size) for p in range(parameters)]
                calls.append(put(*[part for value in values for part in (value.numerator, value.denominator)]))
                told.append([parameters])
                for t in source.sample(range(longest + 1), 3):
                    calls.extend([fault(t), run(t)])
                    for a in range(accounts):
                        calls.extend([path(a, t), slopes(a, t)])
                    calls.append(table(t))
                    told.extend(expected(parameters, begins, rules, values, t))
            with self.subTest(seed=seed, number=number):
                self.assertEqual(ask(*calls), told)

    def test_small_numbers(self):
        self.compare(1, 150, 6, 5)

    def test_small_numbers_for_long(self):
        self.compare(2, 40, 4, 20)

    def test_middling_numbers(self):
        self.compare(3, 60, 10 ** 4, 20)

    def test_great_numbers(self):
        self.compare(4, 100, GREAT, 20)


if __name__ == "__main__":
    unittest.main()
