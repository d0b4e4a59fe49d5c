import unittest
from fractions import Fraction

from asking import (
    AGE_DISTRIBUTION, DESCRIBE, HIGHEST, LIMITS, LOWEST, MAKE_SHOT, MAKE_VIRGIN_SHOT, RESET,
    STRENGTH, WRONG_THRESHOLDS, ask, asked_behind, create, first_weak_shot, max_regrind,
    set_regrind, set_retention, strength_after, strength_after_if,
)

EXAMPLE = create(1, 4, 9, 10)
# Settings with which each of the first 12 strengths is less than the one ahead of it.
FALLING = create(19, 20, 19, 20)
WRONG_COUNTS = (0, 13, -1, 14, LOWEST, HIGHEST)
STATE = [DESCRIBE, AGE_DISTRIBUTION, STRENGTH, LIMITS]


def runs_ahead(settings):
    """The same settings behind several numbers and kinds of shots."""
    return [
        [settings],
        [settings, MAKE_SHOT],
        [settings, MAKE_SHOT, MAKE_SHOT, MAKE_SHOT],
        [settings] + [MAKE_SHOT] * 12,
        [settings, MAKE_SHOT, MAKE_VIRGIN_SHOT],
        [settings, MAKE_SHOT, MAKE_SHOT, RESET],
    ]


class Forecast(unittest.TestCase):
    def assert_told(self, settings, rows):
        """Each call tells this whatever shots there are, and leaves the state as it was."""
        for ahead in runs_ahead(settings):
            before = asked_behind(ahead, STATE)
            for call, answer in rows:
                with self.subTest(ahead=ahead, call=call):
                    self.assertEqual(asked_behind(ahead, [call] + STATE), [answer] + before)


class StrengthAfter(Forecast):
    def test_the_first_shots(self):
        self.assert_told(EXAMPLE, [
            (strength_after(1), [0, 1, 1]),
            (strength_after(2), [0, 39, 40]),
            (strength_after(3), [0, 1551, 1600]),
        ])

    def test_all_shots_against_making_them(self):
        for settings in (EXAMPLE, FALLING, create(2, 4, 2, 4), create(0, 5, 1, 2), create(6, 7, 7, 7)):
            made = ask([settings] + [MAKE_SHOT] * 12)[1:]
            told = ask([settings] + [strength_after(n) for n in range(1, 13)])[1:]
            self.assertEqual(told, [[0] + answer[1:] for answer in made], settings)

    def test_twelve(self):
        # L + (1 - L) * (361 / 400) ** 11 with L = 20 / 39.
        num = (20 * 400 ** 11 + 19 * 361 ** 11) // 39
        self.assert_told(FALLING, [(strength_after(12), [0, num, 400 ** 11])])

    def test_n_out_of_range(self):
        self.assert_told(EXAMPLE, [(strength_after(n), [-22]) for n in WRONG_COUNTS])

    def test_the_settings_of_now(self):
        told = ask([
            EXAMPLE, MAKE_SHOT, MAKE_SHOT, set_regrind(2), strength_after(2), set_retention(1, 2),
            strength_after(2), set_regrind(0), strength_after(2), set_regrind(4), strength_after(2),
        ])
        self.assertEqual(told[4::2], [[0, 19, 20], [0, 3, 4], [0, 1, 1], [0, 1, 1]])


class StrengthAfterIf(Forecast):
    def test_some_regrinds(self):
        self.assert_told(EXAMPLE, [
            (strength_after_if(2, 3), [0, 371, 400]),
            (strength_after_if(0, 3), [0, 1, 1]),
            (strength_after_if(0, 12), [0, 1, 1]),
            (strength_after_if(1, 2), [0, 39, 40]),
            (strength_after_if(3, 1), [0, 1, 1]),
            (strength_after_if(3, 2), [0, 37, 40]),
        ])

    def test_out_of_range(self):
        rows = [(strength_after_if(regrind, 3), [-22]) for regrind in (-1, 4, 5, LOWEST, HIGHEST)]
        rows += [(strength_after_if(2, n), [-22]) for n in WRONG_COUNTS]
        rows += [(strength_after_if(-1, 0), [-22]), (strength_after_if(4, 13), [-22])]
        self.assert_told(EXAMPLE, rows)

    def test_parts_1_leaves_regrind_0_alone(self):
        self.assert_told(create(0, 1, 1, 2), [
            (strength_after_if(0, 12), [0, 1, 1]),
            (strength_after_if(1, 12), [-22]),
            (strength_after_if(-1, 12), [-22]),
        ])

    def test_as_strength_after_behind_set_regrind(self):
        for parts, kept, kept_of in [(4, 9, 10), (20, 19, 20), (6, 2, 4), (3, 5, 5)]:
            settings = create(parts // 2, parts, kept, kept_of)
            for regrind in range(parts):
                counts = range(1, 13)
                if_set = ask([settings] + [strength_after_if(regrind, n) for n in counts])[1:]
                told = ask([settings, set_regrind(regrind)] + [strength_after(n) for n in counts])[2:]
                self.assertEqual(if_set, told, (settings, regrind))

    def test_the_retention_of_now(self):
        told = ask([EXAMPLE, strength_after_if(2, 2), set_retention(1, 2), strength_after_if(2, 2)])
        self.assertEqual(told[1::2], [[0, 19, 20], [0, 3, 4]])


class MaxRegrind(Forecast):
    # The strength limits of 0 to 3 of 4 parts with 9 of 10 kept: 1, 30/31, 10/11, 10/13.

    def test_a_threshold_between_two_limits(self):
        self.assert_told(EXAMPLE, [
            (max_regrind(19, 20), [1]), (max_regrind(97, 100), [0]), (max_regrind(91, 100), [1]),
            (max_regrind(90, 100), [2]), (max_regrind(770, 1000), [2]), (max_regrind(769, 1000), [3]),
        ])

    def test_a_threshold_that_a_limit_meets_exactly(self):
        self.assert_told(EXAMPLE, [
            (max_regrind(30, 31), [1]), (max_regrind(10, 11), [2]), (max_regrind(10, 13), [3]),
            (max_regrind(960, 992), [1]), (max_regrind(760, 988), [3]),
        ])

    def test_a_threshold_of_just_1(self):
        self.assert_told(EXAMPLE, [(max_regrind(1, 1), [0]), (max_regrind(1000, 1000), [0])])
        self.assert_told(create(1, 4, 3, 3), [(max_regrind(1, 1), [3]), (max_regrind(7, 7), [3])])
        self.assert_told(create(0, 1, 1, 2), [(max_regrind(1, 1), [0])])

    def test_a_threshold_above_1(self):
        for settings in (EXAMPLE, create(1, 4, 3, 3), create(0, 1, 1, 1)):
            self.assert_told(settings, [
                (max_regrind(1001, 1000), [-33]), (max_regrind(2, 1), [-33]),
                (max_regrind(HIGHEST, 1), [-33]), (max_regrind(HIGHEST, 1000), [-33]),
            ])

    def test_num_0(self):
        self.assert_told(EXAMPLE, [(max_regrind(0, 1), [3]), (max_regrind(0, 1000), [3])])
        self.assert_told(create(0, 1, 1, 20), [(max_regrind(0, 1), [0])])
        self.assert_told(create(0, 20, 1, 20), [(max_regrind(0, 1), [19]), (max_regrind(1, 1000), [19])])

    def test_out_of_range(self):
        self.assert_told(EXAMPLE, [(max_regrind(*wrong), [-22]) for wrong in WRONG_THRESHOLDS])

    def test_the_regrind_of_now_does_not_matter(self):
        for regrind in range(4):
            told = ask([create(regrind, 4, 9, 10), max_regrind(19, 20), max_regrind(10, 13)])
            self.assertEqual(told[1:], [[1], [3]])

    def test_the_retention_of_now(self):
        told = ask([
            EXAMPLE, set_retention(1, 2), max_regrind(19, 20), max_regrind(2, 5), set_retention(2, 2),
            max_regrind(19, 20),
        ])
        self.assertEqual(told[2:], [[0], [3], [0, 1, 2], [3]])

    def test_the_largest_with_the_limit_at_least_the_threshold(self):
        for parts, kept, kept_of in [(4, 9, 10), (20, 19, 20), (7, 1, 20), (13, 4, 6), (5, 5, 5), (1, 1, 2)]:
            settings = create(0, parts, kept, kept_of)
            limits = {}
            for regrind in range(parts):
                numbers = ask([settings, set_regrind(regrind), LIMITS])[2]
                limits[regrind] = Fraction(numbers[1], numbers[2])
            thresholds = [Fraction(num, 40) for num in range(42)]
            thresholds += [limit for limit in limits.values() if limit.denominator <= 1000]
            for threshold in thresholds:
                call = max_regrind(threshold.numerator, threshold.denominator)
                answer = ask([settings, call])[1]
                with self.subTest(settings=settings, call=call):
                    if threshold > 1:
                        self.assertEqual(answer, [-33])
                        continue
                    self.assertEqual(len(answer), 1)
                    self.assertGreaterEqual(limits[answer[0]], threshold)
                    for larger in range(answer[0] + 1, parts):
                        self.assertLess(limits[larger], threshold)


class FirstWeakShot(Forecast):
    def test_a_threshold_that_a_strength_meets_exactly_is_not_weak(self):
        self.assert_told(EXAMPLE, [
            (first_weak_shot(39, 40), [3]), (first_weak_shot(975, 1000), [3]),
            (first_weak_shot(976, 1000), [2]), (first_weak_shot(1, 1), [2]),
            (first_weak_shot(1000, 1000), [2]),
        ])

    def test_a_threshold_above_1(self):
        for settings in (EXAMPLE, create(0, 4, 1, 2), create(3, 4, 7, 7)):
            self.assert_told(settings, [
                (first_weak_shot(1001, 1000), [1]), (first_weak_shot(2, 1), [1]),
                (first_weak_shot(HIGHEST, 1), [1]), (first_weak_shot(HIGHEST, 1000), [1]),
            ])

    def test_num_0(self):
        for settings in (EXAMPLE, FALLING, create(0, 1, 1, 20)):
            self.assert_told(settings, [(first_weak_shot(0, 1), [-33]), (first_weak_shot(0, 1000), [-33])])

    def test_the_last_shot_and_none(self):
        # The strengths of shots 11 and 12 are 0.687.. and 0.670...
        self.assert_told(FALLING, [
            (first_weak_shot(688, 1000), [11]), (first_weak_shot(687, 1000), [12]),
            (first_weak_shot(671, 1000), [12]), (first_weak_shot(670, 1000), [-33]),
        ])

    def test_where_no_strength_is_below_1(self):
        for settings in (create(3, 4, 7, 7), create(0, 4, 1, 2), create(0, 1, 1, 1)):
            self.assert_told(settings, [(first_weak_shot(1, 1), [-33]), (first_weak_shot(999, 1000), [-33])])

    def test_out_of_range(self):
        self.assert_told(EXAMPLE, [(first_weak_shot(*wrong), [-22]) for wrong in WRONG_THRESHOLDS])

    def test_the_settings_of_now(self):
        told = ask([
            EXAMPLE, MAKE_SHOT, set_regrind(2), first_weak_shot(19, 20), set_retention(1, 2),
            first_weak_shot(19, 20), set_regrind(0), first_weak_shot(19, 20),
        ])
        self.assertEqual(told[3::2], [[3], [2], [-33]])

    def test_the_first_with_a_strength_below_the_threshold(self):
        for settings in (EXAMPLE, FALLING, create(2, 4, 2, 4), create(19, 20, 1, 20)):
            told = ask([settings] + [strength_after(n) for n in range(1, 13)])[1:]
            strengths = [Fraction(answer[1], answer[2]) for answer in told]
            for num in range(0, 1011, 5):
                weak = [n + 1 for n in range(12) if strengths[n] < Fraction(num, 1000)]
                expected = weak[:1] if weak else [-33]
                self.assertEqual(ask([settings, first_weak_shot(num, 1000)])[1], expected, (settings, num))


if __name__ == "__main__":
    unittest.main()
