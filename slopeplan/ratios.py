"""Fractions as pairs of whole numbers: numerator, and denominator from 1 on."""


def common_divisor(first, second):
    """The greatest common divisor, with the sign of second."""
    while second:
        rest = first % second
        first = second
        second = rest
    return first


def common_multiple(first, second):
    return first // common_divisor(first, second) * second


def common_denominator(ratios):
    found = 1
    for ratio in ratios:
        found = common_multiple(found, ratio[1])
    return found


def lowest(numerator, denominator):
    # A denominator below 0 has such a divisor, and becomes one above 0.
    divisor = common_divisor(numerator, denominator)
    return (numerator // divisor, denominator // divisor)


def weight(ratio):
    """How many binary digits both numbers of a fraction in lowest terms have together."""
    return ratio[0].bit_length() + ratio[1].bit_length()


def added(ratio, other):
    return lowest(ratio[0] * other[1] + other[0] * ratio[1], ratio[1] * other[1])


def less(ratio, other):
    return lowest(ratio[0] * other[1] - other[0] * ratio[1], ratio[1] * other[1])


def multiplied(ratio, other):
    return lowest(ratio[0] * other[0], ratio[1] * other[1])


def divided(ratio, other):
    """ratio over other, which is not 0."""
    return lowest(ratio[0] * other[1], ratio[1] * other[0])


def is_below(ratio, other):
    return ratio[0] * other[1] < other[0] * ratio[1]


def read_ratios(numbers, count):
    """The fractions that a list tells, in lowest terms; None where it doesn't tell just count of them."""
    if len(numbers) != 2 * count:
        return None
    ratios = []
    for place in range(0, len(numbers), 2):
        if numbers[place + 1] < 1:
            return None
        ratios.append(lowest(numbers[place], numbers[place + 1]))
    return ratios
