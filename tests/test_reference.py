"""Promises 3 to 12 on many plans, beside the document's words done line by line."""

import random
import unittest
from fractions import Fraction

from asking import (GREAT, aim, ask, code, elastic, fault, first, path, plan, pull, put, run, slopes, table, total,
                    what_if)
from reference import Sensitive, expected, told_code


def some_value(source, size):
    if source.random() < 0.1:
        return Fraction(0)
    return Fraction(source.randint(-size, size), source.randint(1, size))


def some_plan(source):
    accounts = source.randint(1, 6)
    parameters = source.randint(1, 8)
    begins = [source.randint(-1, parameters - 1) for a in range(accounts)]
    rules = []
    for place in range(source.randint(0, 10)):
        kind = source.randint(0, 5)
        b = source.randrange(accounts) if kind in (2, 3, 4) else 0
        rules.append((kind, source.randrange(accounts), b, source.randrange(parameters)))
    return parameters, begins, rules


def numbers_of(fractions):
    return [number for value in fractions for number in (value.numerator, value.denominator)]


class ReferenceTest(unittest.TestCase):
    def compare(self, seed, count, size, longest):
        source = random.Random(seed)
        for number in range(count):
            parameters, begins, rules = some_plan(source)
            accounts = len(begins)
            calls = [plan(accounts, parameters, begins, rules)]
            told = [[len(rules)]]
            for values in range(2):
                values = [some_value(source, size) for p in range(parameters)]
                calls.append(put(*numbers_of(values)))
                told.append([parameters])
                for t in source.sample(range(longest + 1), 3):
                    calls.extend([fault(t), run(t)])
                    for a in range(accounts):
                        calls.extend([path(a, t), slopes(a, t)])
                    calls.append(table(t))
                    told.extend(expected(parameters, begins, rules, values, t))
            with self.subTest(seed=seed, number=number):
                self.assertEqual(ask(*calls), told)

    def compare_sensitive(self, seed, count, size, longest):
        source = random.Random(seed)
        for number in range(count):
            parameters, begins, rules = some_plan(source)
            values = [some_value(source, size) for p in range(parameters)]
            calls = [plan(len(begins), parameters, begins, rules), put(*numbers_of(values))]
            told = [[len(rules)], [parameters]]
            for t in source.sample(range(longest + 1), 2):
                asked = self.sensitive(source, size, (parameters, begins, rules, values, t))
                calls.extend([call for call, answer in asked])
                told.extend([answer for call, answer in asked])
            with self.subTest(seed=seed, number=number):
                self.assertEqual(ask(*calls), told)

    def sensitive(self, source, size, given):
        """Some calls of each kind from pull to code, each with its answer."""
        parameters, begins, rules, values, t = given
        known = Sensitive(*given)
        weights = [some_value(source, size) for begin in begins]
        a = source.randrange(len(begins))
        p = source.randrange(parameters)
        target = some_value(source, size)
        asked = [(pull(t, *numbers_of(weights)), known.pull(weights)), (total(t), known.total()),
                 (code(t), told_code(known.code)), (elastic(a, p, t), known.elastic(a, p)),
                 (aim(a, p, t, *numbers_of([target])), known.aim(a, p, target)),
                 (first(a, t, *numbers_of([target])), known.first(a, target))]
        for others in (values, [some_value(source, size) for value in values]):
            asked.append((what_if(a, t, *numbers_of(others)), known.what_if(a, others)))
        source.shuffle(asked)
        return asked

    def test_sensitivities_with_small_numbers(self):
        self.compare_sensitive(5, 300, 6, 5)

    def test_sensitivities_with_small_numbers_for_long(self):
        self.compare_sensitive(6, 60, 4, 20)

    def test_sensitivities_with_middling_numbers(self):
        self.compare_sensitive(7, 60, 10 ** 4, 20)

    def test_sensitivities_with_great_numbers(self):
        self.compare_sensitive(8, 100, GREAT, 20)

    def test_small_numbers(self):
        self.compare(1, 150, 6, 5)

    def test_small_numbers_for_long(self):
        self.compare(2, 40, 4, 20)

    def test_middling_numbers(self):
        self.compare(3, 60, 10 ** 4, 20)

    def test_great_numbers(self):
        self.compare(4, 100, GREAT, 20)


if __name__ == "__main__":
    unittest.main()
