import ast
import contextlib
import io
import pathlib
import unittest

import regroundshots
from asking import MAKE_SHOT, ask, create
from regroundshots.run import answers

PACKAGE = pathlib.Path(regroundshots.__file__).parent


class Interface(unittest.TestCase):
    def test_how_many_numbers_then_these(self):
        self.assertEqual(
            answers([0, 1, 4, 9, 10, 1, 1, 8, 4, 0, 10]),
            [1, 0, 3, 1, 1, 1, 3, 2, 39, 40, 5, 2, 3, 4, 1, 4, 1, -22],
        )

    def test_each_call_by_itself(self):
        self.assertEqual(answers([8]), [1, -11])
        self.assertEqual(answers([0, 1, 4, 2, 4]), [1, 0])
        self.assertEqual(answers([0, 4, 4, 2, 4]), [1, -22])
        made = [0, 1, 4, 2, 4, 1]
        head = [1, 0, 3, 1, 1, 1]
        for call, answer in [
            ([1], [3, 2, 7, 8]), ([2], [3, 2, 1, 1]), ([3, 0], [1, 1]), ([3, 4], [1, -22]),
            ([4, 1, 1], [3, 0, 2, 4]), ([4, 0, 1], [1, -22]), ([5], [1, 1]),
            ([6, 0], [3, 0, 1, 1]), ([6, 1], [3, 0, 0, 1]), ([6, -1], [1, -22]),
            ([7, 0], [3, 0, 0, 1]), ([7, -1], [1, -22]), ([8], [3, 1, 1, 1]),
        ]:
            with self.subTest(call=call):
                self.assertEqual(answers(made + call), head + answer)
        self.assertEqual(answers([0, 1, 4, 2, 4, 8]), [1, 0, 1, 0])
        self.assertEqual(answers([0, 1, 4, 2, 4, 6, 0]), [1, 0, 1, -6])

    def test_the_list_handed_in_is_unchanged(self):
        calls = [0, 1, 4, 9, 10, 1, 1, 3, 2, 4, 2, 4, 8, 6, 1, 7, 0, 5, 0, 9, 9, 9, 9]
        before = list(calls)
        answers(calls)
        self.assertEqual(calls, before)

    def test_a_second_asking_knows_nothing_of_the_first(self):
        calls = [0, 1, 4, 9, 10, 1, 1, 8]
        first = answers(calls)
        self.assertEqual(answers([8, 1, 5]), [1, -11, 1, -11, 1, -11])
        first.append(99)
        self.assertEqual(answers(calls), first[:-1])

    def test_sixty_calls_in_one_list(self):
        told = ask([create(1, 4, 9, 10)] + [MAKE_SHOT] * 59)
        self.assertEqual(len(told), 60)
        self.assertEqual([answer[0] for answer in told[1:13]], list(range(1, 13)))
        self.assertEqual(told[13:], [[-28]] * 47)
        self.assertEqual(ask([create(1, 4, 9, 10)] * 60), [[0]] * 60)

    def test_every_answer_is_a_plain_list_of_whole_numbers(self):
        told = answers([8, 0, 1, 4, 9, 10, 1, 2, 3, 2, 4, 1, 2, 1, 6, 0, 7, 0, 8, 5, 8, 6, 0])
        self.assertIs(type(told), list)
        for number in told:
            self.assertIs(type(number), int)

    def test_nothing_is_printed(self):
        shown = io.StringIO()
        with contextlib.redirect_stdout(shown), contextlib.redirect_stderr(shown):
            answers([8, 0, 1, 4, 9, 10, 1, 2, 3, 9, 8])
        self.assertEqual(shown.getvalue(), "")

    def test_nothing_but_the_package_itself_is_imported(self):
        for file in sorted(PACKAGE.glob("*.py")):
            for part in ast.walk(ast.parse(file.read_text(encoding="ascii"))):
                self.assertNotIsInstance(part, ast.Import, file.name)
                if isinstance(part, ast.ImportFrom):
                    self.assertTrue(part.module.startswith("regroundshots."), file.name)


if __name__ == "__main__":
    unittest.main()
