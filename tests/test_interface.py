import ast
import contextlib
import io
import pathlib
import unittest

import regroundshots
from asking import (
    AGE_DISTRIBUTION, DESCRIBE, LIMITS, MAKE_SHOT, MEAN_AGE, STRENGTH, STRENGTH_ABOVE_LIMIT, ask,
    create, first_weak_shot, max_regrind, set_retention, strength_after, strength_after_if,
)
from regroundshots.run import answers

PACKAGE = pathlib.Path(regroundshots.__file__).parent


class Interface(unittest.TestCase):
    def test_how_many_numbers_then_these(self):
        self.assertEqual(
            answers([0, 1, 4, 9, 10, 1, 1, 8, 4, 0, 10]),
            [1, 0, 3, 1, 1, 1, 3, 2, 39, 40, 5, 2, 3, 4, 1, 4, 1, -22],
        )

    def test_the_examples_of_the_document(self):
        told = ask([
            create(1, 4, 9, 10), STRENGTH, MAKE_SHOT, MAKE_SHOT, AGE_DISTRIBUTION, MEAN_AGE, LIMITS,
            max_regrind(19, 20), first_weak_shot(39, 40), strength_after_if(2, 3), set_retention(0, 10),
        ])
        self.assertEqual(told, [
            [0], [-6], [1, 1, 1], [2, 39, 40], [2, 3, 4, 1, 4], [0, 1, 4], [0, 30, 31, 1, 3],
            [1], [3], [0, 371, 400], [-22],
        ])
        self.assertEqual(
            answers([0, 1, 4, 9, 10, 9, 1, 1, 8, 10, 11, 14, 19, 20, 15, 39, 40, 16, 2, 3, 4, 0, 10]),
            [1, 0, 1, -6, 3, 1, 1, 1, 3, 2, 39, 40, 5, 2, 3, 4, 1, 4, 3, 0, 1, 4, 5, 0, 30, 31, 1, 3,
             1, 1, 1, 3, 3, 0, 371, 400, 1, -22],
        )

    def test_each_call_by_itself(self):
        self.assertEqual(answers([8]), [1, -11])
        self.assertEqual(answers([0, 1, 4, 2, 4]), [1, 0])
        self.assertEqual(answers([0, 4, 4, 2, 4]), [1, -22])
        made = [0, 1, 4, 2, 4, 1]
        head = [1, 0, 3, 1, 1, 1]
        for call, answer in [
            ([1], [3, 2, 7, 8]), ([2], [3, 2, 1, 1]), ([3, 0], [1, 1]), ([3, 4], [1, -22]),
            ([4, 1, 1], [3, 0, 2, 4]), ([4, 0, 1], [1, -22]), ([5], [1, 1]),
            ([6, 0], [3, 0, 1, 1]), ([6, 1], [3, 0, 0, 1]), ([6, -1], [1, -22]),
            ([7, 0], [3, 0, 0, 1]), ([7, -1], [1, -22]), ([8], [3, 1, 1, 1]),
            ([9], [3, 0, 1, 1]), ([10], [3, 0, 0, 1]), ([11], [5, 0, 6, 7, 1, 3]),
            ([12], [3, 0, 1, 7]), ([13, 2], [3, 0, 7, 8]), ([13, 0], [1, -22]),
            ([14, 6, 7], [1, 1]), ([14, 2, 1], [1, -33]), ([14, -1, 1], [1, -22]),
            ([15, 7, 8], [1, 3]), ([15, 0, 1], [1, -33]), ([15, 1, 0], [1, -22]),
            ([16, 2, 2], [3, 0, 3, 4]), ([16, 4, 2], [1, -22]), ([17], [5, 1, 1, 4, 2, 4]),
        ]:
            with self.subTest(call=call):
                self.assertEqual(answers(made + call), head + answer)
        self.assertEqual(answers([0, 1, 4, 2, 4, 8]), [1, 0, 1, 0])
        for call in ([6, 0], [7, 0], [9], [10], [12]):
            self.assertEqual(answers([0, 1, 4, 2, 4] + call), [1, 0, 1, -6])
        self.assertEqual(answers([0, 1, 4, 2, 4, 17]), [1, 0, 5, 0, 1, 4, 2, 4])

    def test_the_list_handed_in_is_unchanged(self):
        calls = [0, 1, 4, 9, 10, 1, 1, 3, 2, 4, 2, 4, 8, 6, 1, 7, 0, 9, 10, 11, 12, 13, 12, 14, 2, 3,
                 15, 2, 3, 16, 3, 12, 16, 4, 12, 17, 5, 0, 9, 9, 9, 9]
        before = list(calls)
        answers(calls)
        self.assertEqual(calls, before)

    def test_a_second_asking_knows_nothing_of_the_first(self):
        calls = [0, 1, 4, 9, 10, 1, 1, 8, 9, 13, 2, 17]
        first = answers(calls)
        self.assertEqual(answers([8, 1, 5, 17, 11]), [1, -11] * 5)
        first.append(99)
        self.assertEqual(answers(calls), first[:-1])

    def test_sixty_calls_in_one_list(self):
        told = ask([create(1, 4, 9, 10)] + [MAKE_SHOT] * 59)
        self.assertEqual(len(told), 60)
        self.assertEqual([answer[0] for answer in told[1:13]], list(range(1, 13)))
        self.assertEqual(told[13:], [[-28]] * 47)
        self.assertEqual(ask([create(1, 4, 9, 10)] * 60), [[0]] * 60)
        told = ask([create(19, 20, 19, 20)] + [MAKE_SHOT] * 12 + [first_weak_shot(670, 1000)] * 47)
        self.assertEqual(told[13:], [[-33]] * 47)
        told = ask([create(1, 4, 9, 10), MAKE_SHOT] + [
            STRENGTH, MEAN_AGE, LIMITS, STRENGTH_ABOVE_LIMIT, strength_after(3), DESCRIBE,
        ] * 9 + [AGE_DISTRIBUTION] * 4)
        self.assertEqual(len(told), 60)
        self.assertEqual(told[2:56], [
            [0, 1, 1], [0, 0, 1], [0, 30, 31, 1, 3], [0, 1, 31], [0, 1551, 1600], [1, 1, 4, 9, 10],
        ] * 9)

    def test_every_answer_is_a_plain_list_of_whole_numbers(self):
        told = answers([8, 0, 1, 4, 9, 10, 1, 2, 3, 2, 4, 1, 2, 1, 6, 0, 7, 0, 8, 9, 10, 11, 12, 13, 2,
                        14, 1, 2, 15, 1, 2, 16, 1, 2, 17, 5, 8, 6, 0])
        self.assertIs(type(told), list)
        for number in told:
            self.assertIs(type(number), int)

    def test_nothing_is_printed(self):
        shown = io.StringIO()
        with contextlib.redirect_stdout(shown), contextlib.redirect_stderr(shown):
            answers([8, 0, 1, 4, 9, 10, 1, 2, 3, 9, 8, 9, 10, 11, 12, 13, 0, 14, 1, 2, 15, 1, 2, 16, 9, 2, 17])
        self.assertEqual(shown.getvalue(), "")

    def test_nothing_but_the_package_itself_is_imported(self):
        for file in sorted(PACKAGE.glob("*.py")):
            for part in ast.walk(ast.parse(file.read_text(encoding="ascii"))):
                self.assertNotIsInstance(part, ast.Import, file.name)
                if isinstance(part, ast.ImportFrom):
                    self.assertTrue(part.module.startswith("regroundshots."), file.name)


if __name__ == "__main__":
    unittest.main()
