"""The instance: the settings, the shots made, and the age distribution of the last shot.

Every operation gives back the list of numbers that is answered; a refused one
gives back its error code alone and changes nothing.
"""

from regroundshots.material import (
    ages_after, mean_age_limit_of, mean_age_of, next_ages, strength_limit_of, strength_of,
)
from regroundshots.ratio import less, minus, reduced, total_of

OUT_OF_RANGE = -22
NO_SHOT = -6
NO_SHOT_LEFT = -28
NO_SUCH_VALUE = -33

LARGEST_DENOMINATOR = 20
LARGEST_THRESHOLD_DENOMINATOR = 1000
MOST_SHOTS = 12


def regrind_allowed(regrind, parts):
    return 0 <= regrind <= parts - 1


def retention_allowed(kept, kept_of):
    return 1 <= kept_of <= LARGEST_DENOMINATOR and 1 <= kept <= kept_of


def settings_allowed(regrind, parts, kept, kept_of):
    if not 1 <= parts <= LARGEST_DENOMINATOR:
        return False
    return regrind_allowed(regrind, parts) and retention_allowed(kept, kept_of)


def threshold_allowed(num, den):
    return num >= 0 and 1 <= den <= LARGEST_THRESHOLD_DENOMINATOR


def shots_allowed(n):
    return 1 <= n <= MOST_SHOTS


def fraction_answer(fraction):
    """The answer of a call that tells one fraction."""
    return [0, fraction[0], fraction[1]]


class Process:
    """A production run whose settings are in range; run.answers checks them ahead."""

    def __init__(self, regrind, parts, kept, kept_of):
        self.regrind = regrind
        self.parts = parts
        # Kept as they were passed, not in lowest terms: set_retention and describe tell them so.
        self.kept = kept
        self.kept_of = kept_of
        self.shots = 0
        self.ages = []

    def make_shot(self):
        return self.add_shot(next_ages(self.ages, self.regrind, self.parts))

    def make_virgin_shot(self):
        return self.add_shot([reduced(1, 1)])

    def add_shot(self, ages):
        if self.shots == MOST_SHOTS:
            return [NO_SHOT_LEFT]
        self.ages = ages
        self.shots = self.shots + 1
        strength = self.strength_now()
        return [self.shots, strength[0], strength[1]]

    def set_regrind(self, regrind):
        if not regrind_allowed(regrind, self.parts):
            return [OUT_OF_RANGE]
        old_regrind = self.regrind
        self.regrind = regrind
        return [old_regrind]

    def set_retention(self, kept, kept_of):
        if not retention_allowed(kept, kept_of):
            return [OUT_OF_RANGE]
        answer = [0, self.kept, self.kept_of]
        self.kept = kept
        self.kept_of = kept_of
        return answer

    def reset(self):
        old_shots = self.shots
        self.shots = 0
        self.ages = []
        return [old_shots]

    def age_fraction(self, k):
        if k < 0:
            return [OUT_OF_RANGE]
        if self.shots == 0:
            return [NO_SHOT]
        if k >= len(self.ages):
            return fraction_answer(reduced(0, 1))
        return fraction_answer(self.ages[k])

    def older_than(self, k):
        if k < 0:
            return [OUT_OF_RANGE]
        if self.shots == 0:
            return [NO_SHOT]
        return fraction_answer(total_of(self.ages[k + 1:]))

    def age_distribution(self):
        answer = [len(self.ages)]
        for fraction in self.ages:
            answer.append(fraction[0])
            answer.append(fraction[1])
        return answer

    def strength_now(self):
        return strength_of(self.ages, self.kept, self.kept_of)

    def limit_with(self, regrind):
        return strength_limit_of(regrind, self.parts, self.kept, self.kept_of)

    def strength_from_start(self, regrind, n):
        """The strength of the last of n shots made behind a reset."""
        return strength_of(ages_after(n, regrind, self.parts), self.kept, self.kept_of)

    def strength(self):
        if self.shots == 0:
            return [NO_SHOT]
        return fraction_answer(self.strength_now())

    def mean_age(self):
        if self.shots == 0:
            return [NO_SHOT]
        return fraction_answer(mean_age_of(self.ages))

    def limits(self):
        strength_limit = self.limit_with(self.regrind)
        mean_age_limit = mean_age_limit_of(self.regrind, self.parts)
        return [0, strength_limit[0], strength_limit[1], mean_age_limit[0], mean_age_limit[1]]

    def strength_above_limit(self):
        if self.shots == 0:
            return [NO_SHOT]
        return fraction_answer(minus(self.strength_now(), self.limit_with(self.regrind)))

    def strength_after(self, n):
        return self.strength_after_if(self.regrind, n)

    def max_regrind(self, num, den):
        if not threshold_allowed(num, den):
            return [OUT_OF_RANGE]
        threshold = reduced(num, den)
        # From above, so that the first that is strong enough is the largest.
        for regrind in range(self.parts - 1, -1, -1):
            if not less(self.limit_with(regrind), threshold):
                return [regrind]
        return [NO_SUCH_VALUE]

    def first_weak_shot(self, num, den):
        if not threshold_allowed(num, den):
            return [OUT_OF_RANGE]
        threshold = reduced(num, den)
        for n in range(1, MOST_SHOTS + 1):
            if less(self.strength_from_start(self.regrind, n), threshold):
                return [n]
        return [NO_SUCH_VALUE]

    def strength_after_if(self, regrind, n):
        if not regrind_allowed(regrind, self.parts) or not shots_allowed(n):
            return [OUT_OF_RANGE]
        return fraction_answer(self.strength_from_start(regrind, n))

    def describe(self):
        return [self.shots, self.regrind, self.parts, self.kept, self.kept_of]
