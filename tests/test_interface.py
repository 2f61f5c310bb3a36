"""The form of what is handed in and of what is given back."""

import contextlib
import io
import unittest

from tidelocks.harbour import answers

LINE = [
    0, 12340,
    2, 500, 0x3F800000, 0, 0,
    3, -200, 0, 60,
    1, 10, 0x21, 0, 0, 0, 0, 0, 0, 0, 0, 128,
    4, 0, 5, 0, 7, 0, 8, 0, 9, 0, 10, 0,
]


class Interface(unittest.TestCase):
    def test_how_many_numbers_then_these(self):
        self.assertEqual(answers([0, 12340]), [1, 0])
        self.assertEqual(answers([0, 12340, 7, 0]), [1, 0, 2, 0, 1234])
        self.assertEqual(answers([0, 10000, 4, 0, 5, 0]), [1, 0, 2, 0, 0x3FFF8000000000000000, 2, 0, 0x3FF0000000000000])
        self.assertEqual(answers([0, 10000, 10, 0]), [1, 0, 7, 6, 43, 49, 46, 48, 48, 48])
        self.assertEqual(answers([0, 10000, 9, 0]), [1, 0, 11, 0, 0, 0x10, 0, 0, 0, 0, 0, 0, 0, 0])
        self.assertEqual(answers([0, -10, 8, 0]), [1, 0, 2, 0, 2 ** 64 - 1])

    def test_a_line_of_each_call(self):
        # -21 mm, a wave of 50 mm, a surge of -20 mm: 9 mm.
        told = answers(LINE)
        self.assertEqual(told[:8], [1, 0, 1, 0, 1, 0, 1, 0])
        self.assertEqual(told[8:14], [2, 0, 0x3FF8_9374BC6A7EF9DB23, 2, 0, 0x3F826E978D4FDF3B])
        self.assertEqual(told[14:20], [2, 0, 9, 2, 0, 9])
        self.assertEqual(told[20:32], [11, 0, 9, 0, 0, 0, 0, 0, 0, 0, 0, 0])
        self.assertEqual(told[32:], [7, 6, 43, 48, 46, 48, 48, 57])

    def test_a_refusal_is_its_number_alone(self):
        self.assertEqual(answers([0, 0, 0, 2 ** 31 - 1]), [1, 0, 1, -3])
        self.assertEqual(answers([0, 0, 1, 10] + [255] * 10), [1, 0, 1, -3])
        self.assertEqual(answers([0, 0, 2, 1, 0x7F800000, 0, 0]), [1, 0, 1, -3])
        self.assertEqual(answers([0, 0, 3, 1, 0, 0]), [1, 0, 1, -2])
        for call in (4, 5, 7, 8, 9, 10):
            self.assertEqual(answers([0, 0, call, 2 ** 60 + 1, 7, 0]), [1, 0, 1, -2, 2, 0, 0])

    def test_45_calls(self):
        self.assertEqual(answers([0, 70] + [7, 0] * 44), [1, 0] + [2, 0, 7] * 44)

    def test_what_is_handed_in_is_as_it_was(self):
        handed = list(LINE)
        answers(handed)
        self.assertEqual(handed, LINE)

    def test_nothing_is_kept(self):
        first = answers(list(LINE))
        self.assertEqual(answers([0, 0, 7, 0]), [1, 0, 2, 0, 0])
        self.assertEqual(answers(list(LINE)), first)

    def test_what_is_given_back_is_the_askers_own(self):
        first = answers(list(LINE))
        again = list(first)
        first.append(5)
        first[0] = 99
        self.assertEqual(answers(list(LINE)), again)

    def test_whole_numbers_alone(self):
        told = answers(list(LINE) + [4, 2 ** 60 + 1, 2, 1, 0, 0, 0])
        self.assertIs(type(told), list)
        self.assertEqual({type(one) for one in told}, {int})

    def test_nothing_is_printed(self):
        shown = io.StringIO()
        with contextlib.redirect_stdout(shown), contextlib.redirect_stderr(shown):
            answers(list(LINE))
        self.assertEqual(shown.getvalue(), "")


if __name__ == "__main__":
    unittest.main()
