"""The form of what is handed in and of what is given back."""

import contextlib
import io
import unittest

from tidelocks.harbour import answers

LINE = [
    0, 12340,
    2, 500, 0x3F800000, 0, 0,
    3, -200, 0, 60,
    1, 10, 0x21, 0, 0, 0, 0, 0, 0, 0, 0, 128,
    4, 0, 5, 0, 7, 0, 8, 0, 9, 0, 10, 0,
]

ONE = 0x3F800000

# A sea of 2, 1, 0, 1 metres, and a call of each kind about it.
LATER = [
    0, 10000,
    2, 10000, ONE, 0, 2 ** 62,
    11, 0, 9,
    12, 0, 3,
    13, 0, 6, 1,
    14, ONE, ONE, 0xC0000000, ONE,
    16, 1,
    15, 0, 3,
    17, 2,
    18, 0, ONE,
    19, 0,
    20, 0, 0x40400000, 9,
]
TOLD = [
    1, 0,
    1, 0,
    5, 0, 0, 0x40008000000000000000, 2, 0,
    4, 0, 0x40000000, ONE, 0,
    3, 2, 2 ** 32 - 2, 0,
    1, 0,
    1, 0,
    1, 0,
    1, 0,
    1, 1,
    5, 3, ONE, ONE, ONE, 0x40400000,
    1, 1,
]

# Calls that are refused, each beside what it's answered.
REFUSED = (
    ([0, 10 ** 9 + 1], -3), ([1, 10] + [255] * 10, -3), ([2, 5, 0x7F800000, 0, 0], -3), ([3, 5, 0, 0], -2),
    ([4, 2 ** 60 + 1], -2), ([5, 2 ** 60 + 1], -2), ([7, 2 ** 60 + 1], -2), ([8, 2 ** 60 + 1], -2),
    ([9, 2 ** 60 + 1], -2), ([10, 2 ** 60 + 1], -2), ([11, 0, 0], -2), ([11, 2 ** 60 + 1, 5], -2),
    ([12, 0, -1], -2), ([12, -2 ** 60 - 1, 5], -2), ([13, 0, 10001, 5], -2), ([13, 0, 5, -1], -2),
    ([14, 0, ONE, 0, 0], -3), ([15, 1, 0], -2), ([15, 0, 5], -2), ([15, 0, 2], -4), ([15, 0, 4], -4),
    ([16, 2 ** 60 + 1], -2), ([17, 10001], -2), ([17, -1], -2), ([18, 1, 0], -2), ([18, 0, 0x7FC00000], -3),
    ([19, 1], -2), ([20, 1, 0, 5], -2), ([20, 0, 0, 10001], -2), ([20, 0, 0x80000001, 5], -3),
)


class Interface(unittest.TestCase):
    def test_how_many_numbers_then_these(self):
        self.assertEqual(answers([0, 12340]), [1, 0])
        self.assertEqual(answers([0, 12340, 7, 0]), [1, 0, 2, 0, 1234])
        self.assertEqual(answers([0, 10000, 4, 0, 5, 0]), [1, 0, 2, 0, 0x3FFF8000000000000000, 2, 0, 0x3FF0000000000000])
        self.assertEqual(answers([0, 10000, 10, 0]), [1, 0, 7, 6, 43, 49, 46, 48, 48, 48])
        self.assertEqual(answers([0, 10000, 9, 0]), [1, 0, 11, 0, 0, 0x10, 0, 0, 0, 0, 0, 0, 0, 0])
        self.assertEqual(answers([0, -10, 8, 0]), [1, 0, 2, 0, 2 ** 64 - 1])

    def test_a_line_of_each_call(self):
        # -21 mm, a wave of 50 mm, a surge of -20 mm: 9 mm.
        told = answers(LINE)
        self.assertEqual(told[:8], [1, 0, 1, 0, 1, 0, 1, 0])
        self.assertEqual(told[8:14], [2, 0, 0x3FF8_9374BC6A7EF9DB23, 2, 0, 0x3F826E978D4FDF3B])
        self.assertEqual(told[14:20], [2, 0, 9, 2, 0, 9])
        self.assertEqual(told[20:32], [11, 0, 9, 0, 0, 0, 0, 0, 0, 0, 0, 0])
        self.assertEqual(told[32:], [7, 6, 43, 48, 46, 48, 48, 57])

    def test_a_line_of_each_later_call(self):
        self.assertEqual(answers(LATER), TOLD)

    def test_a_refusal_between_two_calls_leaves_the_harbour_as_it_was(self):
        # What the harbour tells of itself: heights, a row, the lock, the sea at its time, the numbers to come.
        asked = [4, 3, 12, 5, 2, 19, 0, 20, 0, 0x40400000, 9, 2, 7, ONE, 0, 0, 14, ONE, 0, 0, 0, 17, 1, 19, 0]
        told = answers(LATER + asked)
        for call, number in REFUSED:
            self.assertEqual(answers(LATER + call + asked), TOLD + [1, number] + told[len(TOLD):], call)

    def test_refused_calls_one_behind_another(self):
        line = LATER + [one for call, number in REFUSED for one in call] + LATER[2:]
        told = TOLD + [one for call, number in REFUSED for one in (1, number)]
        self.assertEqual(answers(line)[:len(told)], told)

    def test_begin_after_all(self):
        self.assertEqual(answers(LATER + [3, 500, 0, 9] + LATER), TOLD + [1, 0] + TOLD)
        self.assertEqual(answers(LATER + [3, 500, 0, 9, 0, 0, 19, 0, 12, 0, 2, 11, 0, 9, 14, ONE, 0, 0, 0, 19, 0]),
                         TOLD + [1, 0, 1, 0, 1, -2, 3, 0, 0, 0, 5, 0, 0, 0, 0, 0, 1, 0, 5, 0, 0, 0, 0, 0])

    def test_a_refusal_is_its_number_alone(self):
        self.assertEqual(answers([0, 0, 0, 2 ** 31 - 1]), [1, 0, 1, -3])
        self.assertEqual(answers([0, 0, 1, 10] + [255] * 10), [1, 0, 1, -3])
        self.assertEqual(answers([0, 0, 2, 1, 0x7F800000, 0, 0]), [1, 0, 1, -3])
        self.assertEqual(answers([0, 0, 3, 1, 0, 0]), [1, 0, 1, -2])
        for call in (4, 5, 7, 8, 9, 10):
            self.assertEqual(answers([0, 0, call, 2 ** 60 + 1, 7, 0]), [1, 0, 1, -2, 2, 0, 0])

    def test_45_calls(self):
        self.assertEqual(answers([0, 70] + [7, 0] * 44), [1, 0] + [2, 0, 7] * 44)

    def test_what_is_handed_in_is_as_it_was(self):
        for line in (LINE, LATER):
            handed = list(line)
            answers(handed)
            self.assertEqual(handed, line)

    def test_nothing_is_kept(self):
        for line in (LINE, LATER):
            first = answers(list(line))
            self.assertEqual(answers([0, 0, 7, 0, 19, 0]), [1, 0, 2, 0, 0, 1, -2])
            self.assertEqual(answers(list(line)), first)

    def test_what_is_given_back_is_the_askers_own(self):
        for line in (LINE, LATER):
            first = answers(list(line))
            again = list(first)
            first.append(5)
            first[0] = 99
            self.assertEqual(answers(list(line)), again)

    def test_whole_numbers_alone(self):
        for line in (LINE + [4, 2 ** 60 + 1, 2, 1, 0, 0, 0], LATER, LATER + [18, 0, 0x44800000, 13, 0, 0, 0]):
            told = answers(list(line))
            self.assertIs(type(told), list)
            self.assertEqual({type(one) for one in told}, {int})

    def test_nothing_is_printed(self):
        shown = io.StringIO()
        with contextlib.redirect_stdout(shown), contextlib.redirect_stderr(shown):
            answers(LINE + LATER)
        self.assertEqual(shown.getvalue(), "")


if __name__ == "__main__":
    unittest.main()
