"""Fractions as pairs of whole numbers: numerator, and denominator from 1 on."""


def common_divisor(first, second):
    """The greatest common divisor; above 0 where second is."""
    while second:
        rest = first % second
        first = second
        second = rest
    return first


def common_multiple(first, second):
    return first // common_divisor(first, second) * second


def lowest(numerator, denominator):
    divisor = common_divisor(numerator, denominator)
    return (numerator // divisor, denominator // divisor)


def weight(ratio):
    """How many binary digits both numbers of a fraction in lowest terms have together."""
    return ratio[0].bit_length() + ratio[1].bit_length()


def is_above(numerator, denominator, most):
    """Whether the weight, in lowest terms, is above most."""
    # Lowest terms are never heavier, so most fractions are spared the search for a divisor.
    if weight((numerator, denominator)) <= most:
        return False
    return weight(lowest(numerator, denominator)) > most


def read_ratios(numbers, count):
    """The fractions that a list tells, in lowest terms; None where it doesn't tell just count of them."""
    if len(numbers) != 2 * count:
        return None
    ratios = []
    for place in range(0, len(numbers), 2):
        if numbers[place + 1] < 1:
            return None
        ratios.append(lowest(numbers[place], numbers[place + 1]))
    return ratios
