import random
import unittest
from fractions import Fraction

from asking import (
    AGE_DISTRIBUTION, HIGHEST, LOWEST, MAKE_SHOT, MAKE_VIRGIN_SHOT, RESET,
    age_fraction, ask, create, fractions_of, older_than, pair, set_regrind, set_retention,
    state_calls,
)

RETENTIONS = [(1, 1), (1, 2), (2, 4), (9, 10), (1, 20), (19, 20), (7, 13), (20, 20)]


def every_ratio():
    return [(regrind, parts) for parts in range(1, 21) for regrind in range(parts)]


def limit_of(r, t):
    return (1 - r) / (1 - r * t)


class ClosedForms(unittest.TestCase):
    def test_the_ages_and_their_sum(self):
        for regrind, parts in every_ratio():
            r = Fraction(regrind, parts)
            told = ask([create(regrind, parts, 1, 2)] + [MAKE_SHOT, AGE_DISTRIBUTION] * 12)
            for n in range(12):
                expected = [(1 - r) * r ** k for k in range(n)] + [r ** n]
                answer = told[2 + 2 * n]
                numbers = [n + 1]
                for fraction in expected:
                    numbers.extend(pair(fraction))
                self.assertEqual(answer, numbers, (regrind, parts, n))
                self.assertEqual(sum(fractions_of(answer[1:])), 1)

    def test_the_strength(self):
        for regrind, parts in every_ratio():
            for kept, kept_of in RETENTIONS:
                r = Fraction(regrind, parts)
                t = Fraction(kept, kept_of)
                limit = limit_of(r, t)
                told = ask([create(regrind, parts, kept, kept_of), MAKE_VIRGIN_SHOT, RESET] + [MAKE_SHOT] * 12)
                for n in range(12):
                    expected = [n + 1] + pair(limit + (1 - limit) * (r * t) ** n)
                    self.assertEqual(told[3 + n], expected, (regrind, parts, kept, kept_of, n))


class Monotonicity(unittest.TestCase):
    def test_the_strength_never_rises_nor_falls_below_its_limit(self):
        for regrind, parts in every_ratio():
            for kept, kept_of in RETENTIONS:
                limit = limit_of(Fraction(regrind, parts), Fraction(kept, kept_of))
                told = ask([create(regrind, parts, kept, kept_of)] + [MAKE_SHOT] * 12)
                strengths = [Fraction(answer[1], answer[2]) for answer in told[1:]]
                for one, following in zip(strengths, strengths[1:]):
                    self.assertLessEqual(following, one)
                self.assertGreaterEqual(strengths[-1], limit)


class ErrorsAndQueries(unittest.TestCase):
    def test_they_leave_the_instance_unchanged(self):
        unchanging = [
            create(4, 4, 1, 1), create(0, 21, 1, 1), create(1, 4, 0, 1), create(1, 4, 2, 1),
            set_regrind(-1), set_regrind(7), set_retention(0, 1), set_retention(1, 21),
            age_fraction(-1), age_fraction(0), age_fraction(99), older_than(LOWEST), older_than(0),
            older_than(HIGHEST), AGE_DISTRIBUTION,
        ]
        for shots in (0, 1, 3, 12):
            ahead = [create(5, 7, 4, 6)] + [MAKE_SHOT] * shots
            expected = ask(ahead + state_calls(7))[1 + shots:]
            full = [MAKE_SHOT, MAKE_VIRGIN_SHOT] if shots == 12 else []
            for call in unchanging + full:
                with self.subTest(shots=shots, call=call):
                    told = ask(ahead + [call, call] + state_calls(7))[1 + shots:]
                    self.assertEqual(told[0], told[1])
                    self.assertEqual(told[2:], expected)

    def test_shots_go_on_behind_them_as_if_they_had_not_been(self):
        between = [AGE_DISTRIBUTION, age_fraction(1), older_than(0), set_regrind(-1), set_retention(0, 0)]
        plain = ask([create(3, 5, 6, 8)] + [MAKE_SHOT] * 8)
        mixed = ask([create(3, 5, 6, 8)] + ([MAKE_SHOT] + between) * 8)
        self.assertEqual(mixed[1::6], plain[1:])


class Model:
    """The words of the document once more, by Python's own fractions."""

    def __init__(self):
        self.settings = None
        self.ages = []
        self.shots = 0

    def answer(self, call):
        if call[0] == 0:
            return self.create(*call[1:])
        if self.settings is None:
            return [-11]
        names = ["", "make_shot", "make_virgin_shot", "set_regrind", "set_retention", "reset",
                 "age_fraction", "older_than", "age_distribution"]
        return getattr(self, names[call[0]])(*call[1:])

    def create(self, regrind, parts, kept, kept_of):
        if parts not in range(1, 21) or regrind not in range(parts):
            return [-22]
        if kept_of not in range(1, 21) or kept not in range(1, kept_of + 1):
            return [-22]
        self.settings = [regrind, parts, kept, kept_of]
        self.ages, self.shots = [], 0
        return [0]

    def add(self, ages):
        if self.shots == 12:
            return [-28]
        self.ages = ages
        self.shots += 1
        t = Fraction(self.settings[2], self.settings[3])
        return [self.shots] + pair(sum(part * t ** k for k, part in enumerate(ages)))

    def make_shot(self):
        r = Fraction(self.settings[0], self.settings[1])
        if not self.ages:
            return self.add([Fraction(1)])
        return self.add([1 - r] + [r * part for part in self.ages])

    def make_virgin_shot(self):
        return self.add([Fraction(1)])

    def set_regrind(self, regrind):
        if regrind not in range(self.settings[1]):
            return [-22]
        old, self.settings[0] = self.settings[0], regrind
        return [old]

    def set_retention(self, kept, kept_of):
        if kept_of not in range(1, 21) or kept not in range(1, kept_of + 1):
            return [-22]
        old, self.settings[2:] = self.settings[2:], [kept, kept_of]
        return [0] + old

    def reset(self):
        old, self.shots, self.ages = self.shots, 0, []
        return [old]

    def tell_of(self, k, fraction_of):
        if k < 0:
            return [-22]
        if self.shots == 0:
            return [-6]
        return [0] + pair(Fraction(fraction_of()))

    def age_fraction(self, k):
        return self.tell_of(k, lambda: sum(part for age, part in enumerate(self.ages) if age == k))

    def older_than(self, k):
        return self.tell_of(k, lambda: sum(part for age, part in enumerate(self.ages) if age > k))

    def age_distribution(self):
        numbers = [len(self.ages)]
        for part in self.ages:
            numbers.extend(pair(part))
        return numbers


def drawn_number(source):
    return source.choice([LOWEST, HIGHEST, -1, 0, 1, 2, 3, 4, 5, 10, 11, 12, 19, 20, 21])


def drawn_call(source):
    number = source.choice([0, 1, 1, 1, 1, 1, 1, 2, 3, 3, 4, 4, 5, 6, 7, 8, 8])
    count = (4, 0, 0, 1, 2, 0, 1, 1, 0)[number]
    if number == 0 and source.random() < 0.7:
        parts, kept_of = source.randint(1, 20), source.randint(1, 20)
        return create(source.randrange(parts), parts, source.randint(1, kept_of), kept_of)
    return [number] + [drawn_number(source) for each in range(count)]


class AgainstTheModel(unittest.TestCase):
    def test_many_drawn_requests(self):
        for seed in range(400):
            source = random.Random(seed)
            calls = [create(3, 8, 5, 6)] if seed % 4 else []
            while len(calls) < 60:
                calls.append(drawn_call(source))
            model = Model()
            expected = [model.answer(call) for call in calls]
            self.assertEqual(ask(calls), expected, seed)


if __name__ == "__main__":
    unittest.main()
