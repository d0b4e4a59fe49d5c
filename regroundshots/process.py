"""The instance: the settings, the shots made, and the age distribution of the last shot.

Every operation gives back the list of numbers that is answered; a refused one
gives back its error code alone and changes nothing.
"""

from regroundshots.ratio import plus, reduced, times, total_of

OUT_OF_RANGE = -22
NO_SHOT = -6
NO_SHOT_LEFT = -28

LARGEST_DENOMINATOR = 20
MOST_SHOTS = 12


def regrind_allowed(regrind, parts):
    return 0 <= regrind <= parts - 1


def retention_allowed(kept, kept_of):
    return 1 <= kept_of <= LARGEST_DENOMINATOR and 1 <= kept <= kept_of


def settings_allowed(regrind, parts, kept, kept_of):
    if not 1 <= parts <= LARGEST_DENOMINATOR:
        return False
    return regrind_allowed(regrind, parts) and retention_allowed(kept, kept_of)


def next_ages(ages, regrind, parts):
    """The age distribution of the shot that follows one with these ages; no ages: of the first shot."""
    if len(ages) == 0:
        return [reduced(1, 1)]
    reground = reduced(regrind, parts)
    # An element of 0 stays in the list: the length is part of what is answered.
    return [reduced(parts - regrind, parts)] + [times(reground, part) for part in ages]


def strength_of(ages, kept, kept_of):
    retention = reduced(kept, kept_of)
    strength = reduced(0, 1)
    left = reduced(1, 1)
    for part in ages:
        strength = plus(strength, times(part, left))
        left = times(left, retention)
    return strength


class Process:
    """A production run whose settings are in range; run.answers checks them ahead."""

    def __init__(self, regrind, parts, kept, kept_of):
        self.regrind = regrind
        self.parts = parts
        # Kept as they were passed, not in lowest terms: set_retention tells them so.
        self.kept = kept
        self.kept_of = kept_of
        self.shots = 0
        self.ages = []

    def make_shot(self):
        return self.add_shot(next_ages(self.ages, self.regrind, self.parts))

    def make_virgin_shot(self):
        return self.add_shot([reduced(1, 1)])

    def add_shot(self, ages):
        if self.shots == MOST_SHOTS:
            return [NO_SHOT_LEFT]
        self.ages = ages
        self.shots = self.shots + 1
        strength = strength_of(self.ages, self.kept, self.kept_of)
        return [self.shots, strength[0], strength[1]]

    def set_regrind(self, regrind):
        if not regrind_allowed(regrind, self.parts):
            return [OUT_OF_RANGE]
        old_regrind = self.regrind
        self.regrind = regrind
        return [old_regrind]

    def set_retention(self, kept, kept_of):
        if not retention_allowed(kept, kept_of):
            return [OUT_OF_RANGE]
        answer = [0, self.kept, self.kept_of]
        self.kept = kept
        self.kept_of = kept_of
        return answer

    def reset(self):
        old_shots = self.shots
        self.shots = 0
        self.ages = []
        return [old_shots]

    def age_fraction(self, k):
        if k < 0:
            return [OUT_OF_RANGE]
        if self.shots == 0:
            return [NO_SHOT]
        if k >= len(self.ages):
            return [0, 0, 1]
        fraction = self.ages[k]
        return [0, fraction[0], fraction[1]]

    def older_than(self, k):
        if k < 0:
            return [OUT_OF_RANGE]
        if self.shots == 0:
            return [NO_SHOT]
        fraction = total_of(self.ages[k + 1:])
        return [0, fraction[0], fraction[1]]

    def age_distribution(self):
        answer = [len(self.ages)]
        for fraction in self.ages:
            answer.append(fraction[0])
            answer.append(fraction[1])
        return answer
