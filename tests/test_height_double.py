"""Promise 3: height and double, to the bit."""

import random
import unittest

from helper import EDGE, MINUTE_CALLS, ask, begin, double, double_bits, height, last, metres, single, surge
from helper import unit_bits, wave

ONE = single(1.0)
EIGHTH = 2 ** 61


def parts(source):
    """Parts of a turn in each of its eighths: at both ends, beside them, and within."""
    found = []
    for k in range(8):
        low = k * EIGHTH
        found += [low, low + 1, low + EIGHTH - 1, low + EIGHTH // 2, low + source.randrange(EIGHTH)]
    return found


class HeightTest(unittest.TestCase):
    def told(self, mean, waves, surged, m):
        calls = [begin(mean)] + [wave(*one) for one in waves]
        if surged:
            calls.append(surge(*surged))
        return ask(*calls, height(m), double(m))[-2:]

    def check(self, mean, waves, surged, m):
        exact = metres(mean, waves, surged, m)
        expected = [[0, unit_bits(exact)], [0, double_bits(exact)]]
        self.assertEqual(self.told(mean, waves, surged, m), expected, (mean, waves, surged, m))

    def test_the_mean_by_10000(self):
        self.assertEqual(self.told(10000, [], None, 0), [[0, 0x3FFF8000000000000000], [0, 0x3FF0000000000000]])
        self.assertEqual(self.told(-15000, [], None, 0), [[0, 0xBFFFC000000000000000], [0, 0xBFF8000000000000]])
        self.assertEqual(self.told(1, [], None, 0), [[0, 0x3FF1D1B71758E219652C], [0, 0x3F1A36E2EB1C432D]])
        self.assertEqual(self.told(0, [], None, 0), [[0, 0], [0, 0]])
        for mean in (3, -7, 9999, 123456789, -10 ** 9, 10 ** 9):
            self.check(mean, [], None, 5)

    def test_phases_in_each_eighth(self):
        for phase in parts(random.Random(1)):
            self.check(0, [(12345, ONE, phase, 0)], None, 0)
            self.check(777, [(-12345, single(0.1), phase, 0)], None, 9)

    def test_speeds_in_each_eighth(self):
        for speed in parts(random.Random(2)):
            for m in (1, 3, -1, -1000001):
                self.check(0, [(12345, ONE, 0, speed)], None, m)

    def test_quarters(self):
        # The cosine's worth there is 1, -0, -1, +0.
        one = 0x3FFF8000000000000000
        told = [last(begin(0), wave(10000, ONE, k * 2 ** 62, 0), height(0)) for k in range(4)]
        self.assertEqual(told, [[0, one], [0, 0], [0, one + 2 ** 79], [0, 0]])

    def test_several_waves_in_order(self):
        source = random.Random(3)
        for many in (2, 3, 5, 12, 30):
            waves = [(source.randrange(-2 ** 31, 2 ** 31), single(source.uniform(-16, 16)),
                      source.randrange(2 ** 64), source.randrange(2 ** 64)) for i in range(many)]
            for m in (0, 1, -1, 525600, -525600, EDGE, -EDGE):
                self.check(source.randrange(-10 ** 9, 10 ** 9), waves, None, m)

    def test_waves_that_nearly_cancel(self):
        waves = [(20000, ONE, 5, 0), (-20000, ONE, 7 * 2 ** 33, 0), (3, single(1e-30), 99, 0)]
        self.check(0, waves, None, 0)
        self.check(-20000, waves[:1], None, 0)
        self.check(0, waves[::-1], None, 0)

    def test_all_at_once(self):
        source = random.Random(4)
        for i in range(60):
            waves = [(source.randrange(-30000, 30000), single(source.uniform(0, 2)), source.randrange(2 ** 64),
                      source.randrange(2 ** 55)) for one in range(source.randrange(4))]
            surged = (source.randrange(-30000, 30000), source.randrange(-1000, 1000), source.randrange(1, 500))
            self.check(source.randrange(-50000, 50000), waves, surged, source.randrange(-2000, 9000))

    def test_the_least_and_the_greatest_minute(self):
        waves = [(12345, ONE, 678, 0x123456789ABCDEF1)]
        for m in (-EDGE, -EDGE + 1, EDGE - 1, EDGE):
            self.check(20, waves, (-500, -EDGE, 2 ** 31 - 1), m)

    def test_past_these_every_call_is_refused(self):
        for call in MINUTE_CALLS:
            for m in (-EDGE - 1, EDGE + 1, -2 ** 63, 2 ** 63 - 1):
                self.assertEqual(ask(begin(5), call(m)), [[0], [-2]])
            for m in (-EDGE, EDGE):
                self.assertNotEqual(last(begin(5), call(m)), [-2])

    def test_a_sum_that_is_0_has_the_sign_plus(self):
        self.assertEqual(self.told(0, [(500, ONE, 0, 0), (500, ONE, 2 ** 63, 0)], None, 0), [[0, 0], [0, 0]])
        self.assertEqual(self.told(-500, [(500, ONE, 0, 0)], None, 0), [[0, 0], [0, 0]])
        self.assertEqual(self.told(0, [(-500, ONE, 0, 0)], (500, 0, 9), 0), [[0, 0], [0, 0]])
        self.assertEqual(self.told(0, [(0, single(-1.0), 0, 0), (5, ONE, 2 ** 62, 0)], None, 0), [[0, 0], [0, 0]])

    def test_a_quotient_that_comes_to_0_keeps_its_sign(self):
        # The least number below 0 is still there in tenths, but not by 10000.
        self.assertEqual(self.told(0, [], (-1, 0, 1), 16445), [[0, 2 ** 79], [0, 2 ** 63]])
        self.assertEqual(self.told(0, [], (1, 0, 1), 16445), [[0, 0], [0, 0]])
        self.assertEqual(self.told(0, [], (-1, 0, 1), 16425), [[0, 2 ** 79 + 105], [0, 2 ** 63]])

    def test_a_quotient_half_way_near_0_goes_to_the_even_one(self):
        for high, found in ((5000, 0), (15000, 2), (25000, 2), (-15000, 2 ** 79 + 2)):
            self.assertEqual(last(begin(0), surge(high, 0, 1), height(16445)), [0, found])

    def test_doubles_near_0(self):
        for q in list(range(1005, 1080)):
            self.check(0, [], (12345, 0, 3), 3 * q + 1)
            self.check(0, [], (-1, 0, 1), q)

    def test_half_way_between_two_doubles_it_is_the_even_one(self):
        surged = (12345, 0, 100003)
        for m in (883, 3344, 5329, 7314, 9775, 11760):
            told, as_double = self.told(0, [], surged, m)
            self.assertEqual(told[1] % 2 ** 11, 2 ** 10)
            self.assertEqual(as_double[1] % 2, 0)
            self.check(0, [], surged, m)


if __name__ == "__main__":
    unittest.main()
