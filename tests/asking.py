"""Helps the tests to write calls by name and to read the answers call by call."""

from fractions import Fraction

from regroundshots.run import answers

LOWEST = -2147483648
HIGHEST = 2147483647


def create(regrind, parts, kept, kept_of):
    return [0, regrind, parts, kept, kept_of]


MAKE_SHOT = [1]
MAKE_VIRGIN_SHOT = [2]


def set_regrind(regrind):
    return [3, regrind]


def set_retention(kept, kept_of):
    return [4, kept, kept_of]


RESET = [5]


def age_fraction(k):
    return [6, k]


def older_than(k):
    return [7, k]


AGE_DISTRIBUTION = [8]


def ask(calls):
    """The answers to these calls of one request, one list for each call."""
    handed_in = []
    for call in calls:
        handed_in.extend(call)
    told = answers(handed_in)
    lists = []
    at = 0
    while at < len(told):
        length = told[at]
        if length < 1 or at + 1 + length > len(told):
            raise AssertionError(f"wrong length at {at} of {told}")
        lists.append(told[at + 1:at + 1 + length])
        at += 1 + length
    if len(lists) != len(calls):
        raise AssertionError(f"{len(calls)} calls, but {len(lists)} answers")
    return lists


def last(calls):
    return ask(calls)[-1]


def state_calls(parts):
    """Calls that tell the whole state, and change it: to be asked at a request's end."""
    return [
        AGE_DISTRIBUTION,
        set_regrind(parts),
        set_regrind(parts - 1),
        set_retention(1, 1),
        RESET,
    ]


def fractions_of(numbers):
    """The fractions of a row of numerators and denominators."""
    return [Fraction(numbers[i], numbers[i + 1]) for i in range(0, len(numbers), 2)]


def pair(fraction):
    """The two numbers by which a Fraction is answered."""
    return [fraction.numerator, fraction.denominator]
