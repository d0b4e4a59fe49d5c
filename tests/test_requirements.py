import random
import unittest
from fractions import Fraction

from asking import (
    AGE_DISTRIBUTION, DESCRIBE, HIGHEST, LIMITS, LOWEST, MAKE_SHOT, MAKE_VIRGIN_SHOT, MEAN_AGE,
    RESET, STRENGTH, STRENGTH_ABOVE_LIMIT, age_fraction, ask, create, first_weak_shot, fractions_of,
    max_regrind, older_than, pair, set_regrind, set_retention, state_calls, strength_after,
    strength_after_if,
)

RETENTIONS = [(1, 1), (1, 2), (2, 4), (9, 10), (1, 20), (19, 20), (7, 13), (20, 20)]


def every_ratio():
    return [(regrind, parts) for parts in range(1, 21) for regrind in range(parts)]


def limit_of(r, t):
    return (1 - r) / (1 - r * t)


class ClosedForms(unittest.TestCase):
    def test_the_ages_and_their_sum(self):
        for regrind, parts in every_ratio():
            r = Fraction(regrind, parts)
            told = ask([create(regrind, parts, 1, 2)] + [MAKE_SHOT, AGE_DISTRIBUTION] * 12)
            for n in range(12):
                expected = [(1 - r) * r ** k for k in range(n)] + [r ** n]
                answer = told[2 + 2 * n]
                numbers = [n + 1]
                for fraction in expected:
                    numbers.extend(pair(fraction))
                self.assertEqual(answer, numbers, (regrind, parts, n))
                self.assertEqual(sum(fractions_of(answer[1:])), 1)

    def test_the_strength_and_the_limits(self):
        for regrind, parts in every_ratio():
            for kept, kept_of in RETENTIONS:
                r = Fraction(regrind, parts)
                t = Fraction(kept, kept_of)
                limit = limit_of(r, t)
                told = ask(
                    [create(regrind, parts, kept, kept_of), MAKE_VIRGIN_SHOT, RESET, LIMITS]
                    + [MAKE_SHOT, STRENGTH] * 12
                )
                self.assertEqual(told[3], [0] + pair(limit) + pair(r / (1 - r)))
                for n in range(12):
                    expected = pair(limit + (1 - limit) * (r * t) ** n)
                    self.assertEqual(told[4 + 2 * n], [n + 1] + expected, (r, t, n))
                    self.assertEqual(told[5 + 2 * n], [0] + expected, (r, t, n))


class Conservation(unittest.TestCase):
    def test_the_ages_add_up_to_1_behind_changes_too(self):
        for seed in range(100):
            source = random.Random(seed)
            calls = [create(3, 20, 1, 2)]
            for shot in range(12):
                calls.append(set_regrind(source.randrange(20)))
                calls.append(source.choice([MAKE_SHOT, MAKE_SHOT, MAKE_SHOT, MAKE_VIRGIN_SHOT]))
                calls.append(AGE_DISTRIBUTION)
            for answer in ask(calls)[3::3]:
                self.assertEqual(len(answer), 1 + 2 * answer[0])
                self.assertEqual(sum(fractions_of(answer[1:])), 1, seed)


class Monotonicity(unittest.TestCase):
    def test_the_strength_never_rises_nor_falls_below_its_limit(self):
        for regrind, parts in every_ratio():
            for kept, kept_of in RETENTIONS:
                told = ask(
                    [create(regrind, parts, kept, kept_of), LIMITS]
                    + [MAKE_SHOT, STRENGTH, STRENGTH_ABOVE_LIMIT] * 12
                )
                limit = Fraction(told[1][1], told[1][2])
                strengths = [Fraction(answer[1], answer[2]) for answer in told[3::3]]
                for one, following in zip(strengths, strengths[1:]):
                    self.assertLessEqual(following, one)
                self.assertGreaterEqual(strengths[-1], limit)
                self.assertEqual(told[4::3], [[0] + pair(strength - limit) for strength in strengths])

    def test_a_higher_regrind_ratio_never_has_a_higher_strength_limit(self):
        ratios = sorted(every_ratio(), key=lambda ratio: Fraction(*ratio))
        for kept, kept_of in RETENTIONS:
            limits = []
            for regrind, parts in ratios:
                answer = ask([create(regrind, parts, kept, kept_of), LIMITS])[1]
                limits.append(Fraction(answer[1], answer[2]))
            self.assertEqual(limits, sorted(limits, reverse=True))


class Maximality(unittest.TestCase):
    def test_the_limit_is_at_least_the_threshold_and_less_with_every_larger_regrind(self):
        for seed in range(400):
            source = random.Random(seed)
            parts, kept_of = source.randint(1, 20), source.randint(1, 20)
            settings = create(source.randrange(parts), parts, source.randint(1, kept_of), kept_of)
            den = source.randint(1, 1000)
            num = source.randint(0, den)
            largest = ask([settings, max_regrind(num, den)])[1][0]
            self.assertIn(largest, range(parts))
            for regrind in range(largest, parts):
                answer = ask([settings, set_regrind(regrind), LIMITS])[2]
                strong_enough = Fraction(answer[1], answer[2]) >= Fraction(num, den)
                self.assertEqual(strong_enough, regrind == largest, (settings, num, den))


class ErrorsAndQueries(unittest.TestCase):
    refused = [
        create(4, 4, 1, 1), create(0, 21, 1, 1), create(1, 4, 0, 1), create(1, 4, 2, 1),
        set_regrind(-1), set_regrind(7), set_retention(0, 1), set_retention(1, 21),
        age_fraction(-1), older_than(LOWEST), strength_after(0), strength_after(13),
        max_regrind(-1, 1), max_regrind(1, 1001), max_regrind(HIGHEST, 1), first_weak_shot(1, 0),
        first_weak_shot(0, 1), strength_after_if(7, 1), strength_after_if(-1, 1),
        strength_after_if(6, 13),
    ]
    # Some of them are refused too, where no shot has been made.
    queries = [
        age_fraction(0), age_fraction(99), older_than(0), older_than(HIGHEST), AGE_DISTRIBUTION,
        STRENGTH, MEAN_AGE, LIMITS, STRENGTH_ABOVE_LIMIT, strength_after(1), strength_after(12),
        max_regrind(0, 1), max_regrind(19, 20), first_weak_shot(19, 20), first_weak_shot(2, 1),
        strength_after_if(0, 1), strength_after_if(6, 12), DESCRIBE,
    ]

    def assert_unchanged_behind(self, ahead, call):
        state = [DESCRIBE, AGE_DISTRIBUTION, STRENGTH]
        expected = ask(ahead + state + state_calls(7))[len(ahead):]
        told = ask(ahead + state + [call, call] + state + state_calls(7))[len(ahead):]
        self.assertEqual(told[3], told[4])
        self.assertEqual(told[:3], expected[:3])
        self.assertEqual(told[5:], expected)
        return told[3]

    def test_they_leave_the_instance_unchanged(self):
        for shots in (0, 1, 3, 12):
            ahead = [create(5, 7, 4, 6)] + [MAKE_SHOT] * shots
            full = [MAKE_SHOT, MAKE_VIRGIN_SHOT] if shots == 12 else []
            for call in self.refused + full:
                with self.subTest(shots=shots, call=call):
                    answer = self.assert_unchanged_behind(ahead, call)
                    self.assertEqual(len(answer), 1)
                    self.assertLess(answer[0], 0)
            for call in self.queries:
                with self.subTest(shots=shots, call=call):
                    self.assert_unchanged_behind(ahead, call)

    def test_shots_go_on_behind_them_as_if_they_had_not_been(self):
        between = [AGE_DISTRIBUTION, age_fraction(1), older_than(0), set_regrind(-1), set_retention(0, 0)]
        plain = ask([create(3, 5, 6, 8)] + [MAKE_SHOT] * 8)
        mixed = ask([create(3, 5, 6, 8)] + ([MAKE_SHOT] + between) * 8)
        self.assertEqual(mixed[1::6], plain[1:])
        between = [
            strength_after(12), max_regrind(9, 10), first_weak_shot(9, 10), strength_after_if(4, 12),
            STRENGTH_ABOVE_LIMIT,
        ]
        mixed = ask([create(3, 5, 6, 8)] + ([MAKE_SHOT] + between) * 8)
        self.assertEqual(mixed[1::6], plain[1:])


class Model:
    """The words of the document once more, by Python's own fractions."""

    def __init__(self):
        self.settings = None
        self.ages = []
        self.shots = 0

    def answer(self, call):
        if call[0] == 0:
            return self.create(*call[1:])
        if self.settings is None:
            return [-11]
        names = ["", "make_shot", "make_virgin_shot", "set_regrind", "set_retention", "reset",
                 "age_fraction", "older_than", "age_distribution", "strength", "mean_age", "limits",
                 "strength_above_limit", "strength_after", "max_regrind", "first_weak_shot",
                 "strength_after_if", "describe"]
        return getattr(self, names[call[0]])(*call[1:])

    def create(self, regrind, parts, kept, kept_of):
        if parts not in range(1, 21) or regrind not in range(parts):
            return [-22]
        if kept_of not in range(1, 21) or kept not in range(1, kept_of + 1):
            return [-22]
        self.settings = [regrind, parts, kept, kept_of]
        self.ages, self.shots = [], 0
        return [0]

    def add(self, ages):
        if self.shots == 12:
            return [-28]
        self.ages = ages
        self.shots += 1
        return [self.shots] + pair(self.strength_of_now())

    def make_shot(self):
        r = Fraction(self.settings[0], self.settings[1])
        if not self.ages:
            return self.add([Fraction(1)])
        return self.add([1 - r] + [r * part for part in self.ages])

    def make_virgin_shot(self):
        return self.add([Fraction(1)])

    def set_regrind(self, regrind):
        if regrind not in range(self.settings[1]):
            return [-22]
        old, self.settings[0] = self.settings[0], regrind
        return [old]

    def set_retention(self, kept, kept_of):
        if kept_of not in range(1, 21) or kept not in range(1, kept_of + 1):
            return [-22]
        old, self.settings[2:] = self.settings[2:], [kept, kept_of]
        return [0] + old

    def reset(self):
        old, self.shots, self.ages = self.shots, 0, []
        return [old]

    def tell(self, fraction_of):
        if self.shots == 0:
            return [-6]
        return [0] + pair(Fraction(fraction_of()))

    def age_fraction(self, k):
        if k < 0:
            return [-22]
        return self.tell(lambda: sum(part for age, part in enumerate(self.ages) if age == k))

    def older_than(self, k):
        if k < 0:
            return [-22]
        return self.tell(lambda: sum(part for age, part in enumerate(self.ages) if age > k))

    def age_distribution(self):
        numbers = [len(self.ages)]
        for part in self.ages:
            numbers.extend(pair(part))
        return numbers

    def retention(self):
        return Fraction(self.settings[2], self.settings[3])

    def strength_of_now(self):
        return sum(part * self.retention() ** k for k, part in enumerate(self.ages))

    def limit_with(self, regrind):
        return limit_of(Fraction(regrind, self.settings[1]), self.retention())

    def strength(self):
        return self.tell(self.strength_of_now)

    def mean_age(self):
        return self.tell(lambda: sum(part * k for k, part in enumerate(self.ages)))

    def limits(self):
        r = Fraction(self.settings[0], self.settings[1])
        return [0] + pair(self.limit_with(self.settings[0])) + pair(r / (1 - r))

    def strength_above_limit(self):
        return self.tell(lambda: self.strength_of_now() - self.limit_with(self.settings[0]))

    def strength_after(self, n):
        if n not in range(1, 13):
            return [-22]
        other = Model()
        other.create(*self.settings)
        for shot in range(n):
            other.make_shot()
        return other.strength()

    def max_regrind(self, num, den):
        if num < 0 or den not in range(1, 1001):
            return [-22]
        strong = [regrind for regrind in range(self.settings[1])
                  if self.limit_with(regrind) >= Fraction(num, den)]
        return strong[-1:] or [-33]

    def first_weak_shot(self, num, den):
        if num < 0 or den not in range(1, 1001):
            return [-22]
        weak = [n for n in range(1, 13) if Fraction(*self.strength_after(n)[1:]) < Fraction(num, den)]
        return weak[:1] or [-33]

    def strength_after_if(self, regrind, n):
        other = Model()
        other.create(*self.settings)
        if other.set_regrind(regrind) == [-22]:
            return [-22]
        return other.strength_after(n)

    def describe(self):
        return [self.shots] + self.settings


def drawn_number(source):
    return source.choice([LOWEST, HIGHEST, -1, 0, 1, 2, 3, 4, 5, 10, 11, 12, 13, 19, 20, 21, 1000, 1001])


def drawn_call(source):
    number = source.choice([0, 1, 1, 1, 1, 1, 1, 2, 3, 3, 4, 4, 5] + list(range(6, 18)))
    count = (4, 0, 0, 1, 2, 0, 1, 1, 0, 0, 0, 0, 0, 1, 2, 2, 2, 0)[number]
    if number in (14, 15) and source.random() < 0.7:
        den = source.randint(1, 1000)
        return [number, source.randint(den // 2, den), den]
    if number == 0 and source.random() < 0.7:
        parts, kept_of = source.randint(1, 20), source.randint(1, 20)
        return create(source.randrange(parts), parts, source.randint(1, kept_of), kept_of)
    return [number] + [drawn_number(source) for each in range(count)]


class AgainstTheModel(unittest.TestCase):
    def test_many_drawn_requests(self):
        for seed in range(400):
            source = random.Random(seed)
            calls = [create(3, 8, 5, 6)] if seed % 4 else []
            while len(calls) < 60:
                calls.append(drawn_call(source))
            model = Model()
            expected = [model.answer(call) for call in calls]
            self.assertEqual(ask(calls), expected, seed)


if __name__ == "__main__":
    unittest.main()
