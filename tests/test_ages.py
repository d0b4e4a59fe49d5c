import unittest

from asking import (
    AGE_DISTRIBUTION, HIGHEST, LOWEST, MAKE_SHOT, MAKE_VIRGIN_SHOT, RESET,
    age_fraction, asked_behind, create, older_than, set_regrind,
)

# The ages of the third shot: 1/4, 3/16, 9/16.
THREE_SHOTS = [create(3, 4, 1, 2), MAKE_SHOT, MAKE_SHOT, MAKE_SHOT]


class AgeFraction(unittest.TestCase):
    def test_each_age_and_beyond(self):
        calls = [age_fraction(k) for k in (0, 1, 2, 3, 4, 11, 12, HIGHEST)]
        self.assertEqual(
            asked_behind(THREE_SHOTS, calls),
            [[0, 1, 4], [0, 3, 16], [0, 9, 16]] + [[0, 0, 1]] * 5,
        )

    def test_in_lowest_terms(self):
        ahead = [create(2, 4, 1, 2), MAKE_SHOT, MAKE_SHOT, MAKE_SHOT]
        calls = [age_fraction(k) for k in range(4)]
        self.assertEqual(asked_behind(ahead, calls), [[0, 1, 2], [0, 1, 4], [0, 1, 4], [0, 0, 1]])

    def test_zero_within_the_distribution(self):
        ahead = [create(0, 4, 1, 2), MAKE_SHOT, MAKE_SHOT]
        self.assertEqual(asked_behind(ahead, [age_fraction(0), age_fraction(1)]), [[0, 1, 1], [0, 0, 1]])

    def test_it_follows_the_last_shot_alone(self):
        told = asked_behind(THREE_SHOTS, [MAKE_VIRGIN_SHOT, age_fraction(0), age_fraction(1)])
        self.assertEqual(told[1:], [[0, 1, 1], [0, 0, 1]])
        told = asked_behind(THREE_SHOTS, [set_regrind(0), age_fraction(2)])
        self.assertEqual(told[1:], [[0, 9, 16]])


class OlderThan(unittest.TestCase):
    def test_each_age_and_beyond(self):
        calls = [older_than(k) for k in (0, 1, 2, 3, 4, 11, 12, HIGHEST)]
        self.assertEqual(
            asked_behind(THREE_SHOTS, calls),
            [[0, 3, 4], [0, 9, 16]] + [[0, 0, 1]] * 6,
        )

    def test_in_lowest_terms(self):
        ahead = [create(2, 4, 1, 2), MAKE_SHOT, MAKE_SHOT, MAKE_SHOT]
        self.assertEqual(asked_behind(ahead, [older_than(0), older_than(1)]), [[0, 1, 2], [0, 1, 4]])

    def test_nothing_is_older_in_a_virgin_shot(self):
        ahead = [create(3, 4, 1, 2), MAKE_VIRGIN_SHOT]
        self.assertEqual(asked_behind(ahead, [older_than(0), older_than(1)]), [[0, 0, 1]] * 2)

    def test_without_regrind_nothing_is_older(self):
        ahead = [create(0, 4, 1, 2), MAKE_SHOT, MAKE_SHOT, MAKE_SHOT]
        self.assertEqual(asked_behind(ahead, [older_than(0), older_than(2)]), [[0, 0, 1]] * 2)


class Refusals(unittest.TestCase):
    def test_a_k_below_0_comes_ahead_of_no_shot(self):
        for call in (age_fraction, older_than):
            for ahead in ([create(3, 4, 1, 2)], THREE_SHOTS, THREE_SHOTS + [RESET]):
                with self.subTest(call=call.__name__, ahead=ahead):
                    self.assertEqual(asked_behind(ahead, [call(-1), call(LOWEST)]), [[-22]] * 2)

    def test_no_shot_behind_create_and_reset(self):
        for call in (age_fraction, older_than):
            for ahead in ([create(3, 4, 1, 2)], THREE_SHOTS + [RESET]):
                with self.subTest(call=call.__name__, ahead=ahead):
                    self.assertEqual(asked_behind(ahead, [call(0), call(1), call(HIGHEST)]), [[-6]] * 3)


class AgeDistribution(unittest.TestCase):
    def test_no_shot_is_one_number(self):
        self.assertEqual(asked_behind([create(3, 4, 1, 2)], [AGE_DISTRIBUTION]), [[0]])
        self.assertEqual(asked_behind(THREE_SHOTS + [RESET], [AGE_DISTRIBUTION]), [[0]])

    def test_the_length_then_each_element(self):
        self.assertEqual(asked_behind(THREE_SHOTS, [AGE_DISTRIBUTION]), [[3, 1, 4, 3, 16, 9, 16]])

    def test_it_agrees_with_age_fraction(self):
        ahead = [create(4, 6, 1, 2)] + [MAKE_SHOT] * 12
        told = asked_behind(ahead, [AGE_DISTRIBUTION] + [age_fraction(k) for k in range(12)])
        self.assertEqual(told[0][0], 12)
        for k in range(12):
            self.assertEqual([0] + told[0][1 + 2 * k:3 + 2 * k], told[1 + k])


if __name__ == "__main__":
    unittest.main()
