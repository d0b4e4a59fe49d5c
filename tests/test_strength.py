import unittest

from asking import (
    AGE_DISTRIBUTION, LIMITS, MAKE_SHOT, MAKE_VIRGIN_SHOT, MEAN_AGE, RESET, STRENGTH,
    STRENGTH_ABOVE_LIMIT, ask, asked_behind, create, set_regrind, set_retention,
)

# The ages of the third shot: 1/4, 3/16, 9/16; its strength: 1/4 + 3/32 + 9/64 = 31/64.
THREE_SHOTS = [create(3, 4, 1, 2), MAKE_SHOT, MAKE_SHOT, MAKE_SHOT]
OF_THE_LAST_SHOT = [STRENGTH, MEAN_AGE, STRENGTH_ABOVE_LIMIT]


class NoShot(unittest.TestCase):
    def test_no_shot_behind_create_and_reset(self):
        for ahead in (
            [create(3, 4, 1, 2)],
            THREE_SHOTS + [RESET],
            THREE_SHOTS + [create(0, 1, 1, 1)],
            THREE_SHOTS + [RESET, set_regrind(0), set_retention(1, 1)],
            [create(3, 4, 1, 2), MAKE_VIRGIN_SHOT, RESET],
        ):
            with self.subTest(ahead=ahead):
                self.assertEqual(asked_behind(ahead, OF_THE_LAST_SHOT), [[-6]] * 3)

    def test_a_shot_behind_reset_is_enough(self):
        told = asked_behind(THREE_SHOTS + [RESET, MAKE_SHOT], OF_THE_LAST_SHOT)
        self.assertEqual(told, [[0, 1, 1], [0, 0, 1], [0, 3, 5]])


class Strength(unittest.TestCase):
    def test_shot_by_shot(self):
        told = ask([create(3, 4, 1, 2)] + [MAKE_SHOT, STRENGTH] * 3)
        self.assertEqual(told[2::2], [[0, 1, 1], [0, 5, 8], [0, 31, 64]])

    def test_the_retention_of_now(self):
        told = ask([
            create(2, 4, 2, 4), MAKE_SHOT, MAKE_SHOT, STRENGTH, set_retention(1, 20), STRENGTH,
            set_retention(4, 4), STRENGTH, set_retention(0, 4), STRENGTH,
        ])
        self.assertEqual(told[3::2], [[0, 3, 4], [0, 21, 40], [0, 1, 1], [0, 1, 1]])

    def test_the_ages_as_they_are_whatever_the_regrind_ratio_of_now(self):
        told = asked_behind(THREE_SHOTS, [set_regrind(0), STRENGTH, set_regrind(1), STRENGTH])
        self.assertEqual(told[1::2], [[0, 31, 64]] * 2)

    def test_behind_a_virgin_shot(self):
        told = asked_behind(THREE_SHOTS, [MAKE_VIRGIN_SHOT, STRENGTH, MAKE_SHOT, STRENGTH])
        self.assertEqual(told[1::2], [[0, 1, 1], [0, 5, 8]])

    def test_zeros_among_the_ages(self):
        told = ask([
            create(0, 4, 1, 2), MAKE_SHOT, MAKE_SHOT, STRENGTH, set_regrind(3), MAKE_SHOT, STRENGTH,
            AGE_DISTRIBUTION, set_regrind(2), MAKE_SHOT, STRENGTH,
        ])
        self.assertEqual(told[3], [0, 1, 1])
        self.assertEqual(told[6:8], [[0, 5, 8], [3, 1, 4, 3, 4, 0, 1]])
        # Ages 1/2, 1/8, 3/8, 0.
        self.assertEqual(told[10], [0, 21, 32])

    def test_it_tells_what_the_shot_told(self):
        told = ask([create(7, 9, 11, 15)] + [MAKE_SHOT, STRENGTH] * 12)
        for made, asked in zip(told[1::2], told[2::2]):
            self.assertEqual(asked, [0] + made[1:])


class MeanAge(unittest.TestCase):
    def test_shot_by_shot(self):
        told = ask([create(3, 4, 1, 2)] + [MAKE_SHOT, MEAN_AGE] * 4)
        self.assertEqual(told[2::2], [[0, 0, 1], [0, 3, 4], [0, 21, 16], [0, 111, 64]])

    def test_in_lowest_terms(self):
        told = asked_behind([create(2, 4, 1, 2), MAKE_SHOT, MAKE_SHOT, MAKE_SHOT], [MEAN_AGE])
        self.assertEqual(told, [[0, 3, 4]])

    def test_the_settings_of_now_do_not_matter(self):
        told = asked_behind(
            THREE_SHOTS, [set_regrind(0), MEAN_AGE, set_retention(1, 20), MEAN_AGE]
        )
        self.assertEqual(told[1::2], [[0, 21, 16]] * 2)

    def test_behind_a_virgin_shot(self):
        told = asked_behind(THREE_SHOTS, [MAKE_VIRGIN_SHOT, MEAN_AGE, MAKE_SHOT, MEAN_AGE])
        self.assertEqual(told[1::2], [[0, 0, 1], [0, 3, 4]])

    def test_zeros_among_the_ages(self):
        told = ask([
            create(0, 4, 1, 2), MAKE_SHOT, MAKE_SHOT, MAKE_SHOT, MEAN_AGE, set_regrind(2), MAKE_SHOT,
            MEAN_AGE, MAKE_SHOT, MEAN_AGE, set_regrind(0), MAKE_SHOT, MEAN_AGE,
        ])
        self.assertEqual(told[4], [0, 0, 1])
        self.assertEqual(told[7], [0, 1, 2])
        self.assertEqual(told[9], [0, 3, 4])
        self.assertEqual(told[12], [0, 0, 1])


class Limits(unittest.TestCase):
    def test_some_settings(self):
        for settings, limits in [
            ((1, 4, 9, 10), [0, 30, 31, 1, 3]),
            ((3, 4, 1, 2), [0, 2, 5, 3, 1]),
            # In lowest terms though 2 of 4 are told.
            ((2, 4, 2, 4), [0, 2, 3, 1, 1]),
            ((6, 9, 12, 16), [0, 2, 3, 2, 1]),
            ((19, 20, 1, 20), [0, 20, 381, 19, 1]),
            ((19, 20, 19, 20), [0, 20, 39, 19, 1]),
            ((1, 20, 1, 20), [0, 20, 21, 1, 19]),
        ]:
            with self.subTest(settings=settings):
                self.assertEqual(ask([create(*settings), LIMITS])[1], limits)

    def test_without_regrind(self):
        for parts, kept, kept_of in [(4, 1, 2), (20, 1, 20), (7, 5, 5), (1, 1, 1), (1, 1, 20), (1, 9, 10)]:
            with self.subTest(parts=parts, kept=kept, kept_of=kept_of):
                told = ask([create(0, parts, kept, kept_of), LIMITS])
                self.assertEqual(told[1], [0, 1, 1, 0, 1])

    def test_with_all_strength_kept(self):
        for settings, mean_age_limit in [
            ((3, 4, 1, 1), [3, 1]), ((2, 6, 7, 7), [1, 2]), ((19, 20, 20, 20), [19, 1]),
        ]:
            with self.subTest(settings=settings):
                self.assertEqual(ask([create(*settings), LIMITS])[1], [0, 1, 1] + mean_age_limit)

    def test_shots_do_not_matter(self):
        for shots in (0, 1, 2, 12):
            told = asked_behind([create(3, 4, 1, 2)] + [MAKE_SHOT] * shots, [LIMITS, RESET, LIMITS])
            self.assertEqual(told, [[0, 2, 5, 3, 1], [shots], [0, 2, 5, 3, 1]])
        self.assertEqual(asked_behind(THREE_SHOTS, [MAKE_VIRGIN_SHOT, LIMITS])[1], [0, 2, 5, 3, 1])

    def test_the_settings_of_now(self):
        told = asked_behind(THREE_SHOTS, [
            set_regrind(1), LIMITS, set_retention(9, 10), LIMITS, set_regrind(4), LIMITS,
            set_retention(11, 10), LIMITS, set_regrind(0), LIMITS,
        ])
        self.assertEqual(told[1::2], [[0, 6, 7, 1, 3]] + [[0, 30, 31, 1, 3]] * 3 + [[0, 1, 1, 0, 1]])


class StrengthAboveLimit(unittest.TestCase):
    def test_above_0(self):
        told = ask([create(1, 4, 9, 10), MAKE_SHOT, STRENGTH_ABOVE_LIMIT, MAKE_SHOT, STRENGTH_ABOVE_LIMIT])
        self.assertEqual(told[2::2], [[0, 1, 31], [0, 9, 1240]])
        # 31/64 - 2/5.
        self.assertEqual(asked_behind(THREE_SHOTS, [STRENGTH_ABOVE_LIMIT]), [[0, 27, 320]])

    def test_in_lowest_terms(self):
        told = asked_behind([create(2, 4, 2, 4), MAKE_SHOT, MAKE_SHOT], [STRENGTH_ABOVE_LIMIT])
        self.assertEqual(told, [[0, 1, 12]])
        # 7/10 less 2/5, whose denominators have a divisor in common.
        told = asked_behind(
            [create(12, 20, 1, 2), MAKE_SHOT, MAKE_SHOT, set_regrind(15)], [STRENGTH_ABOVE_LIMIT]
        )
        self.assertEqual(told, [[0, 3, 10]])

    def test_0(self):
        for settings in [(0, 4, 1, 2), (3, 4, 5, 5), (0, 1, 1, 1)]:
            told = ask([create(*settings)] + [MAKE_SHOT, STRENGTH_ABOVE_LIMIT] * 12)
            self.assertEqual(told[2::2], [[0, 0, 1]] * 12, settings)

    def test_below_0_behind_changed_settings(self):
        told = asked_behind(THREE_SHOTS, [
            set_regrind(0), STRENGTH_ABOVE_LIMIT, set_regrind(1), STRENGTH_ABOVE_LIMIT,
            set_regrind(2), STRENGTH_ABOVE_LIMIT,
        ])
        # 31/64 less 1, 6/7 and 2/3.
        self.assertEqual(told[1::2], [[0, -33, 64], [0, -167, 448], [0, -35, 192]])

    def test_the_retention_of_now_on_both_sides(self):
        told = asked_behind(THREE_SHOTS, [
            set_retention(1, 1), STRENGTH_ABOVE_LIMIT, set_retention(1, 3), STRENGTH_ABOVE_LIMIT,
        ])
        # 1/4 + 1/16 + 1/16 less (1/4) / (3/4).
        self.assertEqual(told[1::2], [[0, 0, 1], [0, 1, 24]])

    def test_behind_a_virgin_shot(self):
        told = asked_behind(THREE_SHOTS, [MAKE_VIRGIN_SHOT, STRENGTH_ABOVE_LIMIT])
        self.assertEqual(told[1], [0, 3, 5])

    def test_zeros_among_the_ages(self):
        told = ask([
            create(0, 4, 1, 2), MAKE_SHOT, MAKE_SHOT, MAKE_SHOT, set_regrind(3), STRENGTH_ABOVE_LIMIT,
            MAKE_SHOT, STRENGTH_ABOVE_LIMIT,
        ])
        self.assertEqual(told[5::2], [[0, 3, 5], [0, 9, 40]])


if __name__ == "__main__":
    unittest.main()
