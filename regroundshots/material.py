"""What ages and settings say of the material: how strong and how old it is, and what both approach.

Settings are in range wherever they are handed in here.
"""

from regroundshots.ratio import plus, reduced, times, total_of


def next_ages(ages, regrind, parts):
    """The age distribution of the shot that follows one with these ages; no ages: of the first shot."""
    if len(ages) == 0:
        return [reduced(1, 1)]
    reground = reduced(regrind, parts)
    # An element of 0 stays in the list: the length is part of what is answered.
    return [reduced(parts - regrind, parts)] + [times(reground, part) for part in ages]


def ages_after(n, regrind, parts):
    """The age distribution of the last of n shots, of which the first is virgin."""
    ages = []
    for made in range(n):
        ages = next_ages(ages, regrind, parts)
    return ages


def strength_of(ages, kept, kept_of):
    retention = reduced(kept, kept_of)
    strength = reduced(0, 1)
    left = reduced(1, 1)
    for part in ages:
        strength = plus(strength, times(part, left))
        left = times(left, retention)
    return strength


def mean_age_of(ages):
    return total_of([times(part, reduced(age, 1)) for age, part in enumerate(ages)])


def strength_limit_of(regrind, parts, kept, kept_of):
    # (1 - r) / (1 - r * t), both multiplied by parts * kept_of. As regrind is
    # less than parts, and kept at most kept_of, the denominator is above 0.
    return reduced((parts - regrind) * kept_of, parts * kept_of - regrind * kept)


def mean_age_limit_of(regrind, parts):
    return reduced(regrind, parts - regrind)
