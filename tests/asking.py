"""Helps the tests to write calls by name and to read the answers call by call."""

from fractions import Fraction

from regroundshots.run import answers

LOWEST = -2147483648
HIGHEST = 2147483647


def create(regrind, parts, kept, kept_of):
    return [0, regrind, parts, kept, kept_of]


MAKE_SHOT = [1]
MAKE_VIRGIN_SHOT = [2]


def set_regrind(regrind):
    return [3, regrind]


def set_retention(kept, kept_of):
    return [4, kept, kept_of]


RESET = [5]


def age_fraction(k):
    return [6, k]


def older_than(k):
    return [7, k]


AGE_DISTRIBUTION = [8]
STRENGTH = [9]
MEAN_AGE = [10]
LIMITS = [11]
STRENGTH_ABOVE_LIMIT = [12]


def strength_after(n):
    return [13, n]


def max_regrind(num, den):
    return [14, num, den]


def first_weak_shot(num, den):
    return [15, num, den]


def strength_after_if(regrind, n):
    return [16, regrind, n]


DESCRIBE = [17]

# Thresholds that are refused, some of them with a num that no value could reach.
WRONG_THRESHOLDS = [
    (-1, 1), (-1, 1000), (LOWEST, 1), (1, 0), (0, 0), (1, -1), (0, -1), (1, 1001), (0, 1001),
    (1, LOWEST), (1, HIGHEST), (HIGHEST, 0), (HIGHEST, 1001), (-1, 0), (-1, 1001),
    (LOWEST, LOWEST), (HIGHEST, HIGHEST),
]


def ask(calls):
    """The answers to these calls of one request, one list for each call."""
    handed_in = []
    for call in calls:
        handed_in.extend(call)
    told = answers(handed_in)
    lists = []
    at = 0
    while at < len(told):
        length = told[at]
        if length < 1 or at + 1 + length > len(told):
            raise AssertionError(f"wrong length at {at} of {told}")
        lists.append(told[at + 1:at + 1 + length])
        at += 1 + length
    if len(lists) != len(calls):
        raise AssertionError(f"{len(calls)} calls, but {len(lists)} answers")
    return lists


def last(calls):
    return ask(calls)[-1]


def asked_behind(ahead, calls):
    """The answers to these calls alone, behind others of the same request."""
    return ask(ahead + calls)[len(ahead):]


def state_calls(parts):
    """Calls that tell the whole state, and change it: to be asked at a request's end."""
    return [
        AGE_DISTRIBUTION,
        set_regrind(parts),
        set_regrind(parts - 1),
        set_retention(1, 1),
        RESET,
    ]


def fractions_of(numbers):
    """The fractions of a row of numerators and denominators."""
    return [Fraction(numbers[i], numbers[i + 1]) for i in range(0, len(numbers), 2)]


def pair(fraction):
    """The two numbers by which a Fraction is answered."""
    return [fraction.numerator, fraction.denominator]
