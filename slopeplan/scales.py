"""Denominators that many fractions share."""

from slopeplan.ratios import common_divisor, weight


class Scale:
    """A denominator that is known by its factors: each with how many times it is in it.

    Small factors are tried far faster than a great common divisor is searched for.
    """

    def __init__(self, whole, factors):
        self.whole = whole
        self.factors = factors

    def stretched(self, factor):
        """The scale that has factor in it once more."""
        factors = dict(self.factors)
        factors[factor] = factors.get(factor, 0) + 1
        return Scale(self.whole * factor, factors)

    def lowest_terms(self, number):
        """The fraction of number over the scale."""
        taken = 1
        for factor, count in self.factors.items():
            # Each time the factor stands in the scale it takes what it still has in common with the number.
            for step in range(count):
                divisor = common_divisor(number, factor)
                if divisor == 1:
                    break
                number //= divisor
                taken *= divisor
        return (number, self.whole // taken)

    def is_heavy(self, number, most):
        """Whether number over the scale has a weight above most."""
        # Lowest terms are never heavier, so most numbers are spared the search for them.
        if weight((number, self.whole)) <= most:
            return False
        return weight(self.lowest_terms(number)) > most
