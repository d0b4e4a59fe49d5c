import unittest

from asking import (
    AGE_DISTRIBUTION, DESCRIBE, HIGHEST, LIMITS, LOWEST, MAKE_SHOT, MAKE_VIRGIN_SHOT, MEAN_AGE,
    RESET, STRENGTH, STRENGTH_ABOVE_LIMIT, age_fraction, ask, create, first_weak_shot, last,
    max_regrind, older_than, set_regrind, set_retention, state_calls, strength_after,
    strength_after_if,
)

# Every call but create, those with wrong arguments too: -11 is checked first.
OTHER_CALLS = [
    MAKE_SHOT, MAKE_VIRGIN_SHOT, set_regrind(0), set_regrind(-1), set_retention(1, 1),
    set_retention(0, 0), RESET, age_fraction(0), age_fraction(-1), older_than(0),
    older_than(-1), AGE_DISTRIBUTION, STRENGTH, MEAN_AGE, LIMITS, STRENGTH_ABOVE_LIMIT,
    strength_after(1), strength_after(0), strength_after(HIGHEST), max_regrind(1, 1),
    max_regrind(-1, 0), max_regrind(2, 1), first_weak_shot(1, 1), first_weak_shot(-1, 0),
    first_weak_shot(0, 1), strength_after_if(0, 1), strength_after_if(-1, 0), DESCRIBE,
]


class NoInstance(unittest.TestCase):
    def test_every_other_call_is_refused_ahead_of_create(self):
        self.assertEqual(ask(OTHER_CALLS), [[-11]] * len(OTHER_CALLS))

    def test_each_other_call_as_the_first(self):
        for call in OTHER_CALLS:
            with self.subTest(call=call):
                self.assertEqual(ask([call]), [[-11]])

    def test_every_other_call_is_refused_behind_a_refused_create(self):
        self.assertEqual(
            ask([create(4, 4, 9, 10)] + OTHER_CALLS),
            [[-22]] + [[-11]] * len(OTHER_CALLS),
        )

    def test_create_succeeds_behind_refused_calls(self):
        self.assertEqual(
            ask([MAKE_SHOT, create(9, 0, 1, 1), MAKE_SHOT, create(1, 4, 9, 10), MAKE_SHOT]),
            [[-11], [-22], [-11], [0], [1, 1, 1]],
        )


class Create(unittest.TestCase):
    def assert_allowed(self, settings):
        with self.subTest(settings=settings):
            self.assertEqual(ask([create(*settings)]), [[0]])

    def assert_refused(self, settings):
        with self.subTest(settings=settings):
            self.assertEqual(ask([create(*settings), RESET]), [[-22], [-11]])

    def test_edges_are_allowed(self):
        for settings in [
            (0, 1, 1, 1), (0, 20, 1, 1), (19, 20, 1, 1), (0, 7, 1, 1), (6, 7, 1, 1),
            (1, 4, 1, 20), (1, 4, 20, 20), (1, 4, 1, 7), (1, 4, 7, 7), (19, 20, 20, 20),
        ]:
            self.assert_allowed(settings)

    def test_one_beyond_each_edge_is_refused(self):
        for settings in [
            (-1, 4, 9, 10), (4, 4, 9, 10), (1, 1, 9, 10), (-1, 1, 9, 10), (20, 20, 9, 10),
            (-1, 20, 9, 10), (0, 0, 9, 10), (-1, 0, 9, 10), (0, -1, 9, 10), (0, 21, 9, 10),
            (20, 21, 9, 10), (1, 4, 0, 10), (1, 4, 11, 10), (1, 4, 0, 1), (1, 4, 2, 1),
            (1, 4, 0, 20), (1, 4, 21, 20), (1, 4, 0, 0), (1, 4, 1, 0), (1, 4, 1, 21),
            (1, 4, 21, 21), (1, 4, -1, -1), (1, 4, -1, 10), (1, 4, 1, -2),
        ]:
            self.assert_refused(settings)

    def test_numbers_at_the_ends_of_their_kind_are_refused(self):
        good = (1, 4, 9, 10)
        for place in range(4):
            for number in (LOWEST, HIGHEST):
                settings = list(good)
                settings[place] = number
                self.assert_refused(settings)
        for number in (LOWEST, HIGHEST):
            self.assert_refused((number, number, number, number))
        self.assert_refused((HIGHEST - 1, HIGHEST, 1, 1))
        self.assert_refused((0, 1, HIGHEST, HIGHEST))

    def test_all_settings_round_the_ranges(self):
        for parts in range(-1, 23):
            for regrind in range(-2, 23):
                allowed = 1 <= parts <= 20 and 0 <= regrind < parts
                expected = [0] if allowed else [-22]
                self.assertEqual(last([create(regrind, parts, 1, 2)]), expected, (regrind, parts))
        for kept_of in range(-1, 23):
            for kept in range(-2, 23):
                allowed = 1 <= kept_of <= 20 and 1 <= kept <= kept_of
                expected = [0] if allowed else [-22]
                self.assertEqual(last([create(1, 2, kept, kept_of)]), expected, (kept, kept_of))

    def test_a_refused_create_keeps_the_instance(self):
        ahead = [create(3, 7, 4, 6), MAKE_SHOT, MAKE_SHOT, MAKE_SHOT]
        kept = ask(ahead + state_calls(7))[4:]
        self.assertEqual(
            kept, [[3, 4, 7, 12, 49, 9, 49], [-22], [3], [0, 4, 6], [3]]
        )
        for refused in [(1, 21, 1, 1), (5, 5, 1, 1), (1, 5, 0, 1), (1, 5, 1, 21), (-1, 5, 1, 2)]:
            with self.subTest(refused=refused):
                told = ask(ahead + [create(*refused)] + state_calls(7))
                self.assertEqual(told[4], [-22])
                self.assertEqual(told[5:], kept)

    def test_a_create_that_succeeds_replaces_the_instance(self):
        told = ask(
            [create(3, 7, 4, 6), MAKE_SHOT, MAKE_SHOT, create(2, 5, 3, 9), age_fraction(0)]
            + state_calls(5)
        )
        self.assertEqual(told[3:], [[0], [-6], [0], [-22], [2], [0, 3, 9], [0]])

    def test_a_create_behind_twelve_shots_starts_anew(self):
        told = ask(
            [create(1, 2, 1, 2)] + [MAKE_SHOT] * 12 + [create(1, 4, 9, 10), MAKE_SHOT, MAKE_SHOT]
        )
        self.assertEqual(told[13:], [[0], [1, 1, 1], [2, 39, 40]])


if __name__ == "__main__":
    unittest.main()
