"""Exact fractions.

A ratio is a pair of whole numbers, numerator and denominator, in lowest terms
with a denominator of at least 1; zero is (0, 1).
"""


def common_divisor(one, other):
    """The greatest whole number that divides both; both are at least 0."""
    while other != 0:
        rest = one % other
        one = other
        other = rest
    return one


def reduced(num, den):
    """The ratio num / den, for a den of at least 1."""
    divisor = common_divisor(abs(num), den)
    return (num // divisor, den // divisor)


def plus(one, other):
    return reduced(one[0] * other[1] + other[0] * one[1], one[1] * other[1])


def minus(one, other):
    return reduced(one[0] * other[1] - other[0] * one[1], one[1] * other[1])


def times(one, other):
    return reduced(one[0] * other[0], one[1] * other[1])


def less(one, other):
    return one[0] * other[1] < other[0] * one[1]


def total_of(ratios):
    total = reduced(0, 1)
    for each in ratios:
        total = plus(total, each)
    return total
