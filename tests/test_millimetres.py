"""Promise 4: mm, floor, decimal and text."""

import math
import random
import unittest
from fractions import Fraction

from helper import ask, begin, by, decimal, digits, floor, last, mm, number, plus_64, single, surge, tenths, text, wave

ONE = single(1.0)


def told_text(*calls):
    row = last(*calls)
    assert row[0] == len(row) - 1
    return "".join([chr(byte) for byte in row[1:]])


class Whole(unittest.TestCase):
    def test_the_nearest_and_the_one_below(self):
        rows = {0: (0, 0), 1: (0, 0), 9: (1, 0), 10: (1, 1), 11: (1, 1), 14: (1, 1), 16: (2, 1),
                -1: (0, -1), -4: (0, -1), -6: (-1, -1), -10: (-1, -1), -11: (-1, -2), -19: (-2, -2)}
        for mean, (nearest, below) in rows.items():
            self.assertEqual(ask(begin(mean), mm(0), floor(0))[1:], [[0, plus_64(nearest)], [0, plus_64(below)]])

    def test_halves_go_to_the_even_one(self):
        rows = {5: 0, 15: 2, 25: 2, 35: 4, -5: 0, -15: -2, -25: -2, -35: -4, 999999995: 100000000, 999999985: 99999998}
        for mean, nearest in rows.items():
            self.assertEqual(last(begin(mean), mm(0)), [0, plus_64(nearest)])
            self.assertEqual(last(begin(mean), floor(0)), [0, plus_64(mean // 10)])

    def test_below_0_is_told_plus_2_to_the_64th(self):
        self.assertEqual(ask(begin(-10), mm(0), floor(0))[1:], [[0, 2 ** 64 - 1], [0, 2 ** 64 - 1]])

    def test_just_beside_a_half(self):
        tiny = single(2.0 ** -50)
        for mean in (5, 15, 25, -5, -15, -25):
            for high in (1, -1):
                exact = Fraction(mean) + Fraction(high, 2 ** 50)
                rows = ask(begin(mean), wave(high, tiny, 0, 0), mm(0), floor(0))
                self.assertEqual(rows[2:], [[0, plus_64(round(exact / 10))], [0, plus_64(math.floor(exact / 10))]])

    def test_what_is_below_0_by_the_least(self):
        # Of these tenths a tenth comes to -0, and to the least number below 0.
        self.assertEqual(ask(begin(0), surge(-1, 0, 1), mm(16445), floor(16445))[2:], [[0, 0], [0, 0]])
        self.assertEqual(ask(begin(0), surge(-1, 0, 1), mm(16440), floor(16440))[2:], [[0, 0], [0, 2 ** 64 - 1]])
        self.assertEqual(ask(begin(0), surge(1, 0, 1), mm(16440), floor(16440))[2:], [[0, 0], [0, 0]])

    def test_what_the_sum_has_no_place_for_is_not_seen(self):
        self.assertEqual(last(begin(1000), wave(-1, single(2.0 ** -60), 0, 0), floor(0)), [0, 100])
        self.assertEqual(last(begin(1000), wave(-1, single(2.0 ** -53), 0, 0), floor(0)), [0, 99])

    def test_waves_and_surges(self):
        source = random.Random(5)
        for i in range(80):
            waves = [(source.randrange(-30000, 30000), single(source.uniform(-16, 16)), source.randrange(2 ** 64),
                      source.randrange(2 ** 64)) for one in range(source.randrange(1, 4))]
            surged = (source.randrange(-30000, 30000), 0, source.randrange(1, 500))
            mean, m = source.randrange(-9999, 9999), source.randrange(-2000, 2000)
            exact = by(tenths(mean, waves, surged, m), number(10))[1]
            nearest = round(exact)
            calls = [begin(mean), surge(*surged)] + [wave(*one) for one in waves]
            rows = ask(*calls, mm(m), floor(m), decimal(m))[-3:]
            self.assertEqual(rows[0], [0, plus_64(nearest)])
            self.assertEqual(rows[1], [0, plus_64(math.floor(exact))])
            self.assertEqual(rows[2], [0] + digits(abs(nearest)) + [128 if nearest < 0 else 0])


class Decimal(unittest.TestCase):
    def test_ten_bytes(self):
        self.assertEqual(last(begin(12345670), decimal(0)), [0, 0x67, 0x45, 0x23, 0x01, 0, 0, 0, 0, 0, 0])
        self.assertEqual(last(begin(-12345670), decimal(0)), [0, 0x67, 0x45, 0x23, 0x01, 0, 0, 0, 0, 0, 128])
        self.assertEqual(last(begin(990), decimal(0)), [0, 0x99] + [0] * 9)
        self.assertEqual(last(begin(1000), decimal(0)), [0, 0, 1] + [0] * 8)

    def test_128_only_below_0(self):
        for mean, tenth in ((0, 0), (-1, 0), (-5, 0), (-6, 128), (5, 0)):
            self.assertEqual(last(begin(mean), decimal(0))[10], tenth)

    def test_as_mark_reads_it(self):
        for mean in (0, 123450, -123450, 10 ** 9, -10 ** 9):
            told = last(begin(mean), decimal(0))[1:]
            self.assertEqual(ask(begin(77), [1, 10] + told, mm(0))[1:], [[0], last(begin(mean), mm(0))])

    def test_many_digits(self):
        calls = [begin(10 ** 9)] + [wave(2 ** 31 - 1, single(16.0), 0, 0)] * 40
        value = round(Fraction(10 ** 9 + 40 * 16 * (2 ** 31 - 1), 10))
        self.assertEqual(last(*calls, decimal(0)), [0] + digits(value) + [0])


class Text(unittest.TestCase):
    def test_signs_metres_and_three_digits(self):
        rows = {0: "+0.000", 10: "+0.001", 120: "+0.012", 1230: "+0.123", 9990: "+0.999", 10000: "+1.000",
                12340: "+1.234", 100000: "+10.000", 10 ** 9: "+100000.000", 999999990: "+99999.999",
                -10: "-0.001", -9990: "-0.999", -10000: "-1.000", -1234560: "-123.456", -10 ** 9: "-100000.000"}
        for mean, shown in rows.items():
            self.assertEqual(told_text(begin(mean), text(0)), shown)

    def test_what_comes_to_0_has_plus(self):
        for mean in (-5, -1, 0, 1, 5):
            self.assertEqual(told_text(begin(mean), text(0)), "+0.000")
        self.assertEqual(told_text(begin(-6), text(0)), "-0.001")

    def test_its_count_stands_ahead(self):
        self.assertEqual(last(begin(-12340), text(0)), [6, 45, 49, 46, 50, 51, 52])

    def test_many_metres(self):
        calls = [begin(0)] + [wave(-2 ** 31, single(16.0), 0, 0)] * 40
        self.assertEqual(told_text(*calls, text(0)), "-137438953.472")


if __name__ == "__main__":
    unittest.main()
