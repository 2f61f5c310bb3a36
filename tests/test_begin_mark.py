"""Promise 1: begin and mark."""

import unittest

from helper import EDGE, ask, begin, digits, height, last, mark, mm, single, surge, text, wave

ONE = single(1.0)


class Begin(unittest.TestCase):
    def test_mean_is_the_height_in_tenths(self):
        self.assertEqual(ask(begin(12340), mm(0)), [[0], [0, 1234]])
        self.assertEqual(ask(begin(-12340), mm(7)), [[0], [0, 2 ** 64 - 1234]])

    def test_mean_at_its_bounds(self):
        self.assertEqual(ask(begin(10 ** 9), mm(0)), [[0], [0, 10 ** 8]])
        self.assertEqual(ask(begin(-10 ** 9), mm(0)), [[0], [0, 2 ** 64 - 10 ** 8]])

    def test_mean_past_its_bounds_is_refused(self):
        for mean in (10 ** 9 + 1, -10 ** 9 - 1, 2 ** 31 - 1, -2 ** 31):
            self.assertEqual(ask(begin(50), begin(mean), mm(0)), [[0], [-3], [0, 5]])

    def test_a_refused_begin_keeps_waves_and_surge(self):
        made = [begin(100), wave(200, ONE, 0, 0), surge(400, 0, 10)]
        self.assertEqual(last(*made, mm(0)), [0, 70])
        self.assertEqual(ask(*made, begin(10 ** 9 + 1), mm(0), wave(0, ONE, 0, 0))[3:], [[-3], [0, 70], [1]])

    def test_a_new_begin_has_no_waves_and_no_surge(self):
        rows = ask(begin(100), wave(200, ONE, 0, 0), surge(400, 0, 10), begin(30), mm(0), wave(40, ONE, 0, 0), mm(5))
        self.assertEqual(rows, [[0], [0], [0], [0], [0, 3], [0], [0, 7]])


class Mark(unittest.TestCase):
    def test_the_lowest_byte_and_digit_come_first(self):
        self.assertEqual(last(begin(5), mark([0x21, 0x43, 0x65, 0, 0, 0, 0, 0, 0, 0]), mm(0)), [0, 654321])
        self.assertEqual(last(begin(5), mark(digits(654321) + [0]), height(0)), last(begin(6543210), height(0)))

    def test_128_is_minus(self):
        self.assertEqual(last(begin(5), mark(digits(1234) + [128]), mm(0)), [0, 2 ** 64 - 1234])
        self.assertEqual(last(begin(5), mark(digits(1234) + [128]), height(0)), last(begin(-12340), height(0)))

    def test_0_with_either_sign(self):
        for sign in (0, 128):
            self.assertEqual(ask(begin(5), mark([0] * 9 + [sign]), height(0), text(0)),
                             [[0], [0], [0, 0], [6, 43, 48, 46, 48, 48, 48]])

    def test_just_at_and_above_its_bound(self):
        for sign, mean in ((0, 10 ** 9), (128, -10 ** 9)):
            self.assertEqual(ask(begin(5), mark(digits(10 ** 8) + [sign]), height(0))[1:],
                             [[0], last(begin(mean), height(0))])
            for above in (10 ** 8 + 1, 10 ** 17, 10 ** 18 - 1):
                self.assertEqual(ask(begin(50), mark(digits(above) + [sign]), mm(0)), [[0], [-3], [0, 5]])

    def test_a_digit_above_9_is_refused(self):
        for place in range(9):
            for byte in (0x0A, 0x0F, 0xA0, 0xF0, 0x9A, 0xA9, 0xFF):
                ten = [0] * 10
                ten[place] = byte
                self.assertEqual(ask(begin(50), mark(ten), mm(0)), [[0], [-3], [0, 5]])

    def test_99_is_taken(self):
        self.assertEqual(ask(begin(50), mark([0x99, 0x99, 0x99, 0x99] + [0] * 6), mm(0)), [[0], [0], [0, 99999999]])

    def test_another_tenth_byte_is_refused(self):
        for byte in [b for b in range(256) if b not in (0, 128)]:
            self.assertEqual(ask(begin(50), mark(digits(1) + [byte]), mm(0)), [[0], [-3], [0, 5]])

    def test_waves_and_surge_stay(self):
        made = [begin(0), wave(200, ONE, 0, 0), surge(400, -EDGE, 10), surge(80, 0, 1)]
        self.assertEqual(ask(*made, mark(digits(7) + [0]), mm(0), mm(-1))[4:], [[0], [0, 35], [0, 27]])
        self.assertEqual(ask(*made, mark([0x0A] + [0] * 9), mm(0))[4:], [[-3], [0, 28]])


if __name__ == "__main__":
    unittest.main()
