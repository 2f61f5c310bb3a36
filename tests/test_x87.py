"""Lines of calls with the answers of a C program that did the sums with a processor's x87 unit and its singles."""

import pathlib
import unittest

from tidelocks.harbour import answers

LINES = pathlib.Path(__file__).with_name("x87_lines.txt").read_text().split("\n")


class X87(unittest.TestCase):
    def test_each_line(self):
        checked = 0
        for calls, told in zip(LINES[::2], LINES[1::2]):
            handed = [int(one) for one in calls.split()[1:]]
            self.assertEqual(answers(handed), [int(one) for one in told.split()[1:]], calls)
            checked += 1
        self.assertEqual(checked, 150)


if __name__ == "__main__":
    unittest.main()
