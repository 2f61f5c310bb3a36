"""Promise 5: range."""

import random
import unittest

from helper import EDGE, ask, begin, four_by_four, height, last, metres, single, span, surge, tenths, unit_bits, wave

ONE = single(1.0)
METRE = 0x3FFF8000000000000000
MINUS = 2 ** 79


def expected(mean, waves, surged, m, n):
    """By the document's words: the heights are compared, their metres are told."""
    all_heights = [tenths(mean, waves, surged, m + k)[1] for k in range(n)]
    places = [all_heights.index(min(all_heights)), all_heights.index(max(all_heights))]
    return [0] + [unit_bits(metres(mean, waves, surged, m + k)) for k in places] + places


class RangeTest(unittest.TestCase):
    def check(self, mean, waves, surged, m, n):
        calls = [begin(mean)] + [wave(*one) for one in waves]
        if surged:
            calls.append(surge(*surged))
        self.assertEqual(last(*calls, span(m, n)), expected(mean, waves, surged, m, n), (mean, waves, surged, m, n))

    def test_the_first_of_several(self):
        sea = four_by_four([5, 9, 2, 9])
        five, nine, two = [last(*sea, height(k))[1] for k in (0, 1, 2)]
        self.assertEqual(last(*sea, span(0, 12)), [0, two, nine, 2, 1])
        self.assertEqual(last(*sea, span(3, 12)), [0, two, nine, 3, 0])
        self.assertEqual(last(*sea, span(2, 2)), [0, two, nine, 0, 1])
        self.assertEqual(last(*sea, span(0, 2)), [0, five, nine, 0, 1])
        self.assertEqual(last(*sea, span(-4, 3)), [0, two, nine, 2, 1])

    def test_n_1(self):
        self.check(77, [(12345, ONE, 678, 91011)], (500, 0, 7), 5, 1)
        self.assertEqual(last(begin(-10000), span(0, 1)), [0, METRE + MINUS, METRE + MINUS, 0, 0])

    def test_n_10000(self):
        # The wave is lowest at 1807 and highest at the very last.
        sea = [begin(0), wave(10000, ONE, -9999 * 2 ** 50 % 2 ** 64, 2 ** 50)]
        self.assertEqual(last(*sea, span(0, 10000)), [0, METRE + MINUS, METRE, 1807, 9999])
        self.assertEqual(last(*sea, span(0, 9999))[3:], [1807, 9998])

    def test_n_out_of_bounds(self):
        for n in (0, -1, 10001, -2 ** 31, 2 ** 31 - 1):
            self.assertEqual(ask(begin(10000), span(0, n), height(0)), [[0], [-2], [0, METRE]])

    def test_m_out_of_bounds(self):
        for m in (-EDGE - 1, EDGE + 1, -2 ** 63, 2 ** 63 - 1):
            for n in (1, 5, 0, 10001):
                self.assertEqual(last(begin(10000), span(m, n)), [-2])

    def test_only_m_is_bounded(self):
        waves = [(54321, single(0.7), 3 * 2 ** 61, 0x1234567890ABCDEF), (-777, ONE, 5, 2 ** 63 - 1)]
        for surged in (None, (9999, EDGE, 3)):
            self.check(5, waves, surged, EDGE, 9)
            self.check(5, waves, surged, EDGE - 2, 6)
        self.check(5, waves, (-8888, -EDGE, 5), -EDGE, 9)

    def test_all_alike(self):
        self.assertEqual(last(begin(10000), span(-50, 100)), [0, METRE, METRE, 0, 0])

    def test_0_with_either_sign_is_as_low(self):
        # The wave's height is -0 and +0 in turn; each sum with the mean is 0.
        for phase in (2 ** 62, 3 * 2 ** 62):
            for high in (10000, -10000):
                sea = [begin(0), wave(high, ONE, phase, 2 ** 63)]
                self.assertEqual(last(*sea, span(0, 6)), [0, 0, 0, 0, 0])
        sea = [begin(10000), wave(-10000, ONE, 0, 2 ** 62)]
        # 0, 1, 2, 1: the first 0 is told.
        self.assertEqual(last(*sea, span(1, 9)), [0, 0, METRE + 2 ** 64, 3, 1])

    def test_below_0(self):
        self.check(-50000, [(12345, ONE, 0, 2 ** 61)], None, 0, 10)
        self.check(0, [(12345, single(-1.5), 9, 2 ** 59 + 3)], None, -20, 40)

    def test_heights_are_told_apart_though_their_metres_are_the_same(self):
        for high, m in ((10002, 5), (10003, 9)):
            for sign in (1, -1):
                waves = [(sign * high, ONE, 0, 2 ** 28)]
                self.assertNotEqual(tenths(0, waves, None, m), tenths(0, waves, None, m + 1))
                self.assertEqual(metres(0, waves, None, m), metres(0, waves, None, m + 1))
                self.check(0, waves, None, m, 2)

    def test_with_a_surge_that_begins_within(self):
        source = random.Random(21)
        for i in range(12):
            waves = [(source.randrange(-30000, 30000), single(source.uniform(-2, 2)), source.randrange(2 ** 64),
                      source.randrange(2 ** 60)) for one in range(source.randrange(4))]
            surged = (source.randrange(-90000, 90000), source.randrange(1, 19), source.randrange(1, 9))
            self.check(source.randrange(-9000, 9000), waves, surged, 0, 20)

    def test_the_harbour_is_as_it_was(self):
        sea = [begin(10), wave(12345, ONE, 678, 91011), surge(500, 3, 2)]
        rows = ask(*sea, height(4), span(0, 9), height(4), span(0, 9))
        self.assertEqual(rows[3], rows[5])
        self.assertEqual(rows[4], rows[6])


if __name__ == "__main__":
    unittest.main()
