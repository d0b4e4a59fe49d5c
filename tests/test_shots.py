import unittest

from asking import (
    AGE_DISTRIBUTION, MAKE_SHOT, MAKE_VIRGIN_SHOT, RESET,
    ask, create, set_regrind, set_retention, state_calls,
)


class MakeShot(unittest.TestCase):
    def test_the_examples_of_the_document(self):
        self.assertEqual(
            ask([create(1, 4, 9, 10), MAKE_SHOT, MAKE_SHOT, AGE_DISTRIBUTION, set_retention(0, 10)]),
            [[0], [1, 1, 1], [2, 39, 40], [2, 3, 4, 1, 4], [-22]],
        )

    def test_the_first_shot_is_virgin_whatever_the_settings(self):
        for settings in [(0, 1, 1, 1), (0, 5, 1, 2), (19, 20, 1, 20), (3, 4, 2, 4)]:
            with self.subTest(settings=settings):
                self.assertEqual(
                    ask([create(*settings), MAKE_SHOT, AGE_DISTRIBUTION])[1:],
                    [[1, 1, 1], [1, 1, 1]],
                )

    def test_the_first_shot_behind_reset_is_virgin(self):
        told = ask(
            [create(2, 3, 1, 2), MAKE_SHOT, MAKE_SHOT, RESET, MAKE_SHOT, AGE_DISTRIBUTION, MAKE_SHOT]
        )
        self.assertEqual(told[3:], [[2], [1, 1, 1], [1, 1, 1], [2, 2, 3]])

    def test_later_shots_shift_the_ages(self):
        told = ask([create(2, 3, 1, 2)] + [MAKE_SHOT, AGE_DISTRIBUTION] * 4)
        self.assertEqual(told[1:], [
            [1, 1, 1], [1, 1, 1],
            [2, 2, 3], [2, 1, 3, 2, 3],
            [3, 5, 9], [3, 1, 3, 2, 9, 4, 9],
            [4, 14, 27], [4, 1, 3, 2, 9, 4, 27, 8, 27],
        ])

    def test_without_regrind_the_elements_of_0_stay(self):
        told = ask([create(0, 5, 1, 2), MAKE_SHOT, MAKE_SHOT, MAKE_SHOT, AGE_DISTRIBUTION])
        self.assertEqual(told[1:], [[1, 1, 1], [2, 1, 1], [3, 1, 1], [3, 1, 1, 0, 1, 0, 1]])

    def test_elements_of_0_are_shifted_too(self):
        told = ask([
            create(0, 4, 1, 2), MAKE_SHOT, MAKE_SHOT, set_regrind(3), MAKE_SHOT, AGE_DISTRIBUTION,
            set_regrind(0), MAKE_SHOT, AGE_DISTRIBUTION,
        ])
        self.assertEqual(told[4:6], [[3, 5, 8], [3, 1, 4, 3, 4, 0, 1]])
        self.assertEqual(told[7:], [[4, 1, 1], [4, 1, 1, 0, 1, 0, 1, 0, 1]])

    def test_the_regrind_ratio_is_that_of_now(self):
        told = ask([
            create(1, 4, 1, 1), MAKE_SHOT, MAKE_SHOT, set_regrind(2), MAKE_SHOT, AGE_DISTRIBUTION,
        ])
        self.assertEqual(told[4:], [[3, 1, 1], [3, 1, 2, 3, 8, 1, 8]])

    def test_the_strength_is_in_lowest_terms_with_the_retention_of_now(self):
        told = ask([
            create(2, 4, 2, 4), MAKE_SHOT, MAKE_SHOT, set_retention(4, 4), MAKE_SHOT,
            set_retention(1, 20), MAKE_SHOT,
        ])
        self.assertEqual(told[2], [2, 3, 4])
        self.assertEqual(told[4], [3, 1, 1])
        # 1/2 + 1/4 * 1/20 + 1/8 * 1/400 + 1/8 * 1/8000, ages 0 to 3 with the new retention.
        self.assertEqual(told[6], [4, 32821, 64000])

    def test_twelve_shots_then_no_more(self):
        for call in (MAKE_SHOT, MAKE_VIRGIN_SHOT):
            with self.subTest(call=call):
                ahead = [create(1, 2, 2, 4)] + [MAKE_SHOT] * 12
                told = ask(ahead + [call] + state_calls(2))
                self.assertEqual([answer[0] for answer in told[1:13]], list(range(1, 13)))
                self.assertEqual(told[13], [-28])
                self.assertEqual(told[14:], ask(ahead + state_calls(2))[13:])
                self.assertEqual(told[14][0], 12)
                self.assertEqual(told[-1], [12])

    def test_the_largest_numbers_are_exact(self):
        told = ask([create(19, 20, 19, 20)] + [MAKE_SHOT] * 12 + [AGE_DISTRIBUTION])
        self.assertEqual(told[13][-2:], [19 ** 11, 20 ** 11])
        self.assertEqual(told[13][-4:-2], [19 ** 10, 20 ** 11])
        self.assertEqual(told[12][0], 12)
        # L + (1 - L) * (361 / 400) ** 11 with L = 20 / 39.
        num = 20 * 400 ** 11 + 19 * 361 ** 11
        self.assertEqual(num % 39, 0)
        self.assertEqual(told[12][1:], [num // 39, 400 ** 11])


class MakeVirginShot(unittest.TestCase):
    def test_as_the_first_shot(self):
        self.assertEqual(
            ask([create(3, 4, 1, 2), MAKE_VIRGIN_SHOT, AGE_DISTRIBUTION])[1:],
            [[1, 1, 1], [1, 1, 1]],
        )

    def test_behind_shots_it_starts_the_ages_anew_and_counts(self):
        told = ask([
            create(3, 4, 1, 2), MAKE_SHOT, MAKE_SHOT, MAKE_SHOT, MAKE_VIRGIN_SHOT, AGE_DISTRIBUTION,
            MAKE_SHOT, AGE_DISTRIBUTION, RESET,
        ])
        self.assertEqual(told[4:], [
            [4, 1, 1], [1, 1, 1], [5, 5, 8], [2, 1, 4, 3, 4], [5],
        ])

    def test_twelve_shots_then_no_more(self):
        for call in (MAKE_SHOT, MAKE_VIRGIN_SHOT):
            with self.subTest(call=call):
                told = ask(
                    [create(3, 4, 1, 2)] + [MAKE_VIRGIN_SHOT] * 12
                    + [call, AGE_DISTRIBUTION, RESET, MAKE_VIRGIN_SHOT]
                )
                self.assertEqual(told[12], [12, 1, 1])
                self.assertEqual(told[13:], [[-28], [1, 1, 1], [12], [1, 1, 1]])

    def test_both_kinds_count_as_one(self):
        told = ask([create(3, 4, 1, 2)] + [MAKE_SHOT, MAKE_VIRGIN_SHOT] * 6 + [MAKE_SHOT, RESET])
        self.assertEqual(told[12:], [[12, 1, 1], [-28], [12]])


if __name__ == "__main__":
    unittest.main()
