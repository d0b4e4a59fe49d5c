import unittest

from asking import (
    AGE_DISTRIBUTION, HIGHEST, LOWEST, MAKE_SHOT, RESET,
    ask, create, set_regrind, set_retention, state_calls,
)


class SetRegrind(unittest.TestCase):
    def test_it_tells_the_previous_value(self):
        self.assertEqual(
            ask([create(2, 4, 1, 2), set_regrind(3), set_regrind(0), set_regrind(0), set_regrind(1)])[1:],
            [[2], [3], [0], [0]],
        )

    def test_the_range_for_every_parts(self):
        for parts in range(1, 21):
            with self.subTest(parts=parts):
                told = ask([
                    create(parts - 1, parts, 1, 2), set_regrind(0), set_regrind(parts - 1),
                    set_regrind(-1), set_regrind(parts), set_regrind(0),
                ])
                self.assertEqual(told[1:], [[parts - 1], [0], [-22], [-22], [parts - 1]])

    def test_the_ends_of_the_numbers_are_refused(self):
        self.assertEqual(
            ask([create(2, 4, 1, 2), set_regrind(LOWEST), set_regrind(HIGHEST), set_regrind(1)])[1:],
            [[-22], [-22], [2]],
        )

    def test_the_range_is_held_against_the_parts_of_now(self):
        told = ask([create(1, 20, 1, 2), create(1, 4, 1, 2), set_regrind(4), create(1, 5, 1, 2), set_regrind(4)])
        self.assertEqual(told[2:], [[-22], [0], [1]])

    def test_it_leaves_all_else_as_it_was(self):
        ahead = [create(2, 4, 2, 6), MAKE_SHOT, MAKE_SHOT, MAKE_SHOT]
        told = ask(ahead + [set_regrind(1)] + state_calls(4))
        self.assertEqual(told[4:], [[2], [3, 1, 2, 1, 4, 1, 4], [-22], [1], [0, 2, 6], [3]])

    def test_a_refused_one_changes_nothing(self):
        ahead = [create(2, 4, 2, 6), MAKE_SHOT, MAKE_SHOT]
        for regrind in (-1, 4, LOWEST, HIGHEST):
            with self.subTest(regrind=regrind):
                told = ask(ahead + [set_regrind(regrind)] + state_calls(4))
                self.assertEqual(told[3:], [[-22], [2, 1, 2, 1, 2], [-22], [2], [0, 2, 6], [2]])


class SetRetention(unittest.TestCase):
    def test_it_tells_the_previous_values_as_they_were_passed(self):
        self.assertEqual(
            ask([
                create(1, 4, 2, 4), set_retention(3, 9), set_retention(20, 20), set_retention(1, 1),
                set_retention(1, 1),
            ])[1:],
            [[0, 2, 4], [0, 3, 9], [0, 20, 20], [0, 1, 1]],
        )

    def test_the_range_for_every_kept_of(self):
        for kept_of in range(1, 21):
            with self.subTest(kept_of=kept_of):
                told = ask([
                    create(0, 1, 1, 1), set_retention(1, kept_of), set_retention(kept_of, kept_of),
                    set_retention(0, kept_of), set_retention(kept_of + 1, kept_of),
                    set_retention(1, 1),
                ])
                self.assertEqual(
                    told[1:], [[0, 1, 1], [0, 1, kept_of], [-22], [-22], [0, kept_of, kept_of]]
                )

    def test_wrong_values_are_refused_and_change_nothing(self):
        ahead = [create(2, 4, 2, 6), MAKE_SHOT, MAKE_SHOT]
        for kept, kept_of in [
            (0, 10), (11, 10), (-1, 10), (1, 0), (0, 0), (1, 21), (21, 21), (20, 21), (-1, -1),
            (1, -1), (LOWEST, 10), (HIGHEST, 10), (1, LOWEST), (1, HIGHEST), (LOWEST, LOWEST),
            (HIGHEST, HIGHEST), (LOWEST, HIGHEST), (HIGHEST, LOWEST),
        ]:
            with self.subTest(kept=kept, kept_of=kept_of):
                told = ask(ahead + [set_retention(kept, kept_of)] + state_calls(4))
                self.assertEqual(told[3:], [[-22], [2, 1, 2, 1, 2], [-22], [2], [0, 2, 6], [2]])

    def test_it_leaves_all_else_as_it_was(self):
        told = ask([create(2, 4, 2, 6), MAKE_SHOT, MAKE_SHOT, set_retention(5, 10)] + state_calls(4))
        self.assertEqual(told[3:], [[0, 2, 6], [2, 1, 2, 1, 2], [-22], [2], [0, 5, 10], [2]])


class Reset(unittest.TestCase):
    def test_it_tells_the_previous_shots(self):
        self.assertEqual(
            ask([create(1, 4, 1, 2), RESET, MAKE_SHOT, MAKE_SHOT, RESET, RESET])[1:],
            [[0], [1, 1, 1], [2, 7, 8], [2], [0]],
        )

    def test_it_keeps_the_settings(self):
        told = ask(
            [create(1, 4, 1, 2), set_regrind(2), set_retention(2, 6), MAKE_SHOT, MAKE_SHOT, RESET]
            + state_calls(4)
        )
        self.assertEqual(told[5:], [[2], [0], [-22], [2], [0, 2, 6], [0]])

    def test_twelve_shots_can_be_made_anew(self):
        told = ask([create(1, 4, 1, 2)] + [MAKE_SHOT] * 12 + [RESET] + [MAKE_SHOT] * 13 + [AGE_DISTRIBUTION])
        self.assertEqual(told[13], [12])
        self.assertEqual(told[14:26], told[1:13])
        self.assertEqual(told[26], [-28])
        self.assertEqual(told[27][0], 12)


if __name__ == "__main__":
    unittest.main()
