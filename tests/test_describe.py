import unittest

from asking import (
    DESCRIBE, MAKE_SHOT, MAKE_VIRGIN_SHOT, RESET, age_fraction, ask, create, first_weak_shot,
    max_regrind, set_regrind, set_retention, strength_after, strength_after_if,
)


class Describe(unittest.TestCase):
    def test_the_settings_as_they_were_passed(self):
        for settings in [(2, 4, 2, 4), (0, 1, 1, 1), (19, 20, 20, 20), (6, 9, 10, 15), (0, 20, 1, 20)]:
            with self.subTest(settings=settings):
                self.assertEqual(ask([create(*settings), DESCRIBE])[1], [0] + list(settings))

    def test_the_number_of_shots(self):
        told = ask([create(2, 4, 2, 4)] + [MAKE_SHOT, DESCRIBE] * 13)
        self.assertEqual(told[2:25:2], [[n, 2, 4, 2, 4] for n in range(1, 13)])
        self.assertEqual(told[25:], [[-28], [12, 2, 4, 2, 4]])
        told = ask([create(2, 4, 2, 4)] + [MAKE_SHOT, MAKE_VIRGIN_SHOT, DESCRIBE] * 3)
        self.assertEqual(told[3::3], [[n, 2, 4, 2, 4] for n in (2, 4, 6)])

    def test_behind_changed_settings(self):
        told = ask([
            create(2, 4, 2, 4), MAKE_SHOT, set_regrind(3), DESCRIBE, set_regrind(0), DESCRIBE,
            set_retention(3, 9), DESCRIBE, set_retention(20, 20), DESCRIBE, RESET, DESCRIBE,
        ])
        self.assertEqual(told[3::2], [
            [1, 3, 4, 2, 4], [1, 0, 4, 2, 4], [1, 0, 4, 3, 9], [1, 0, 4, 20, 20], [0, 0, 4, 20, 20],
        ])

    def test_behind_another_create(self):
        told = ask([create(2, 4, 2, 4), MAKE_SHOT, create(1, 3, 5, 6), DESCRIBE])
        self.assertEqual(told[3], [0, 1, 3, 5, 6])

    def test_behind_refused_calls(self):
        refused = [
            create(4, 4, 1, 1), create(1, 4, 0, 1), create(1, 21, 1, 1), set_regrind(4), set_regrind(-1),
            set_retention(0, 5), set_retention(6, 5), set_retention(1, 21), age_fraction(-1),
            strength_after(0), max_regrind(-1, 1), max_regrind(2, 1), first_weak_shot(1, 0),
            first_weak_shot(0, 1), strength_after_if(4, 1), strength_after_if(3, 13),
        ]
        for call in refused:
            with self.subTest(call=call):
                told = ask([create(2, 4, 2, 4), MAKE_SHOT, MAKE_SHOT, call, DESCRIBE])
                self.assertEqual(len(told[3]), 1)
                self.assertLess(told[3][0], 0)
                self.assertEqual(told[4], [2, 2, 4, 2, 4])


if __name__ == "__main__":
    unittest.main()
