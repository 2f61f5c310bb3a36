"""Promise 6: row and turns."""

import random
import unittest

from helper import EDGE, ask, begin, four_by_four, last, mm, pair_of, row, row_bits, row_height, single, surge, turns
from helper import value_of, wave

ONE = single(1.0)
MINUS = 2 ** 31


def some_waves(source, many):
    factors = (ONE, 0, MINUS, 1, MINUS | 77, 0x7FFFFF, 0x800000, single(1e-36), single(-16.0), 0x41800000)
    return [(source.choice([0, source.randrange(-2 ** 31, 2 ** 31), source.randrange(-30000, 30000)]),
             source.choice([source.choice(factors), single(source.uniform(-2, 2))]),
             source.randrange(2 ** 64), source.choice([0, source.randrange(2 ** 64), source.randrange(2 ** 58)]))
            for i in range(many)]


class RowTest(unittest.TestCase):
    def check(self, mean, waves, m, n):
        calls = [begin(mean)] + [wave(*one) for one in waves]
        self.assertEqual(last(*calls, row(m, n)), [0] + row_bits(mean, waves, m, n), (mean, waves, m, n))

    def test_four_by_four(self):
        told = last(*four_by_four([3, -1, 4, 0]), row(0, 9))
        self.assertEqual(told, [0] + [single(one) for one in (3.0, -1.0, 4.0, 0.0, 3.0, -1.0, 4.0, 0.0, 3.0)])

    def test_n_0_and_1(self):
        sea = four_by_four([3, -1, 4, 0])
        self.assertEqual(ask(*sea, row(1, 0), row(1, 1))[-2:], [[0], [0, single(-1.0)]])

    def test_n_out_of_bounds(self):
        sea = four_by_four([3, -1, 4, 0])
        for n in (-1, -2 ** 31, 10001, 2 ** 31 - 1):
            self.assertEqual(ask(*sea, row(0, n), row(0, 1))[-2:], [[-2], [0, single(3.0)]])

    def test_m_out_of_bounds(self):
        for m in (-EDGE - 1, EDGE + 1, -2 ** 63, 2 ** 63 - 1):
            for n in (0, 1, 10001):
                self.assertEqual(last(begin(0), row(m, n)), [-2])

    def test_no_waves(self):
        self.assertEqual(last(begin(10000), row(7, 5)), [0] + [ONE] * 5)
        for mean in (0, 1, -1, 3, -12345, 10 ** 9, -10 ** 9):
            self.check(mean, [], 0, 3)

    def test_1_to_9_waves(self):
        source = random.Random(31)
        for many in range(1, 10):
            for i in range(8):
                self.check(source.choice([0, source.randrange(-10 ** 5, 10 ** 5)]), some_waves(source, many),
                           source.randrange(-10 ** 6, 10 ** 6), 7)

    def test_43_waves(self):
        self.check(5, some_waves(random.Random(32), 43), 99, 5)

    def test_the_order_of_the_sums(self):
        # At this size a single's step is a quarter: what is lost depends on the order.
        large, small = (2 ** 31 - 1, single(16.0), 0, 0), (2500, single(0.6), 0, 0)
        less = (-2 ** 31 + 1, single(16.0), 0, 0)
        told = []
        for waves in ([large, less, small, small], [large, small, less, small], [small, large, small, less],
                      [large, small, small, less], [small, small, small, large, less, small], [small] * 4 + [large]):
            self.check(1000, waves, 0, 2)
            told.append(last(begin(1000), *[wave(*one) for one in waves], row(0, 1))[1])
        self.assertGreater(len(set(told)), 3)

    def test_missing_waves_are_as_waves_of_factor_0(self):
        source = random.Random(33)
        none = (0, 0, 0, 0)
        for many in (1, 2, 3, 5, 6, 7):
            waves = some_waves(source, many)
            filled = waves + [none] * (-many % 4)
            self.assertEqual(last(begin(0), *[wave(*one) for one in waves], row(3, 4)),
                             last(begin(0), *[wave(*one) for one in filled], row(3, 4)))

    def test_factor_0_and_heights_of_0(self):
        for factor in (0, MINUS):
            for high in (12345, -12345):
                self.assertEqual(last(begin(0), wave(high, factor, 5, 2 ** 60), row(0, 3)), [0, 0, 0, 0])
        # A height that is exactly 0 by a sum is +0.
        self.assertEqual(last(begin(-10000), wave(10000, ONE, 0, 0), row(0, 2)), [0, 0, 0])
        self.assertEqual(last(begin(10000), wave(-10000, ONE, 0, 0), row(0, 2)), [0, 0, 0])

    def test_near_0_with_fewer_places(self):
        for factor in (1, MINUS | 1, 3, 0x7FFFFF, MINUS | 0x800001, 0x1000001):
            waves = [(7777, factor, 2 ** 60 + 12345, 2 ** 55 + 1), (12, factor, 3 * 2 ** 61, 2 ** 57)]
            self.check(0, waves, 5, 12)
            self.assertNotEqual(set(row_bits(0, waves, 5, 12)), {0})

    def test_phases_and_speeds_in_each_eighth(self):
        for k in range(8):
            for beside in (0, 1, 2 ** 60, 2 ** 61 - 1):
                self.check(0, [(12345, ONE, k * 2 ** 61 + beside, 2 ** 50)], 0, 2)
                self.check(0, [(12345, ONE, 77, k * 2 ** 61 + beside)], 0, 3)

    def test_the_surge_is_left_out(self):
        sea = four_by_four([3, -1, 4, 0])
        rows = ask(*sea, row(0, 5), surge(70000, 0, 1000), row(0, 5), mm(0))
        self.assertEqual(rows[-3:], [[0], rows[-4], [0, 10000]])

    def test_a_pair_goes_on_from_the_one_before(self):
        waves = [(23456, ONE, 2 ** 62 + 9, 2 ** 64 // 745)]
        told = last(begin(0), wave(*waves[0]), row(0, 200))[1:]
        self.assertEqual(told, row_bits(0, waves, 0, 200))
        anew = [single(row_height(0, waves, [pair_of(waves[0], k)])) for k in range(200)]
        self.assertEqual(told[0], anew[0])
        self.assertNotEqual(told, anew)
        self.assertNotEqual(told[1:], last(begin(0), wave(*waves[0]), row(1, 199))[1:])

    def test_n_10000(self):
        source = random.Random(34)
        waves = [(source.randrange(30000), ONE, source.randrange(2 ** 64), 2 ** 64 // source.randrange(700, 800))
                 for i in range(2)]
        self.check(12345, waves, -5000, 10000)

    def test_the_least_and_the_greatest_minute(self):
        waves = some_waves(random.Random(35), 3)
        for m in (-EDGE, -EDGE + 1, EDGE - 1, EDGE):
            self.check(77, waves, m, 5)

    def test_mark_changes_the_mean(self):
        told = last(begin(5), [1, 10, 0x34, 0x12] + [0] * 7 + [128], row(0, 2))
        self.assertEqual(told, [0] + [single(-1.234)] * 2)


def expected(told, most):
    """high and low water by the document's words, of a row's singles."""
    values = [value_of(one) for one in told]
    found = []
    for k in range(1, len(values) - 1):
        before, here, after = values[k - 1:k + 2]
        if here > before and here >= after:
            found.append((k, told[k]))
        if here < before and here <= after:
            found.append((2 ** 32 - k, told[k]))
    return [len(found)] + [one[0] for one in found[:most]] + [one[1] for one in found[:most]]


class TurnsTest(unittest.TestCase):
    def told(self, four, n, most):
        return last(*four_by_four(four), turns(0, n, most))

    def test_all_the_times_then_all_the_heights(self):
        high, low = single(4.0), single(-4.0)
        self.assertEqual(self.told([0, 4, 0, -4], 12, 100),
                         [5, 1, 2 ** 32 - 3, 5, 2 ** 32 - 7, 9, high, low, high, low, high])

    def test_most(self):
        high, low = single(4.0), single(-4.0)
        for most, told in ((0, []), (1, [1, high]), (2, [1, 2 ** 32 - 3, high, low]),
                           (3, [1, 2 ** 32 - 3, 5, high, low, high])):
            self.assertEqual(self.told([0, 4, 0, -4], 12, most), [5] + told)
        for most in (6, 9999, 10000):
            self.assertEqual(self.told([0, 4, 0, -4], 12, most), self.told([0, 4, 0, -4], 12, 5))

    def test_n_0_to_3(self):
        for four, third in (([0, 4, 0, 4], [1, 1, single(4.0)]), ([4, 0, 4, 0], [1, 2 ** 32 - 1, 0]),
                            ([1, 2, 3, 2], [0]), ([3, 2, 1, 2], [0]), ([5, 5, 5, 5], [0])):
            self.assertEqual([self.told(four, n, 10) for n in (0, 1, 2)], [[0]] * 3)
            self.assertEqual(self.told(four, 3, 10), third)

    def test_a_level_stretch(self):
        two, one = single(2.0), single(1.0)
        # Up, level, up: its first minute is high water, though the sea goes on to rise.
        self.assertEqual(self.told([0, 1, 1, 2], 6, 10), [3, 1, 3, 2 ** 32 - 4, one, two, 0])
        # Down, level, down: its first minute is low water.
        self.assertEqual(self.told([2, 1, 1, 0], 6, 10), [3, 2 ** 32 - 1, 2 ** 32 - 3, 4, one, 0, two])
        # Up, level, down; then down, level, up: the first minute of each, and no other.
        self.assertEqual(self.told([0, 2, 2, 0], 7, 10), [3, 1, 2 ** 32 - 3, 5, two, 0, two])
        # A level stretch with which the row begins is no high water.
        self.assertEqual(self.told([2, 2, 0, 0], 4, 10), [1, 2 ** 32 - 2, 0])
        self.assertEqual(self.told([1, 1, 1, 1], 50, 10), [0])

    def test_neither_first_nor_last(self):
        self.assertEqual(self.told([4, 0, 0, 0], 5, 10), [1, 2 ** 32 - 1, 0])
        self.assertEqual(self.told([4, 0, 0, 0], 6, 10), [2, 2 ** 32 - 1, 4, 0, single(4.0)])

    def test_out_of_bounds(self):
        sea = four_by_four([0, 4, 0, -4])
        for n, most in ((-1, 5), (10001, 5), (-2 ** 31, 5), (2 ** 31 - 1, 5), (5, -1), (5, 10001), (5, -2 ** 31),
                        (5, 2 ** 31 - 1), (0, -1), (0, 10001)):
            self.assertEqual(ask(*sea, turns(0, n, most), row(1, 1))[-2:], [[-2], [0, single(4.0)]])
        for m in (-EDGE - 1, EDGE + 1, -2 ** 63, 2 ** 63 - 1):
            self.assertEqual(last(*sea, turns(m, 5, 5)), [-2])
            self.assertEqual(last(*sea, turns(m, -1, -1)), [-2])

    def test_n_and_most_10000(self):
        sea = [begin(10000), wave(10000, ONE, 0, 2 ** 63)]
        told = last(*sea, turns(0, 10000, 10000))
        self.assertEqual(told[0], 9998)
        self.assertEqual(told[1:9999], [k if k % 2 == 0 else 2 ** 32 - k for k in range(1, 9999)])
        self.assertEqual(told[9999:], [single(2.0) if k % 2 == 0 else 0 for k in range(1, 9999)])

    def test_the_same_as_of_a_row(self):
        source = random.Random(36)
        for i in range(30):
            waves = [wave(source.randrange(30000), single(source.uniform(-2, 2)), source.randrange(2 ** 64),
                          source.choice([source.randrange(2 ** 64), 2 ** 64 // source.randrange(3, 50), 2 ** 40]))
                     for one in range(source.randrange(1, 6))]
            m, n, most = source.randrange(-EDGE, EDGE), source.randrange(150), source.randrange(60)
            rows = ask(begin(source.randrange(-5000, 5000)), *waves, row(m, n), turns(m, n, most))
            self.assertEqual(rows[-1], expected(rows[-2][1:], most))

    def test_the_surge_is_left_out(self):
        sea = four_by_four([0, 4, 0, -4])
        rows = ask(*sea, turns(0, 50, 60), surge(10 ** 6, 10, 3), turns(0, 50, 60))
        self.assertEqual(rows[-1], rows[-3])

    def test_the_least_and_the_greatest_minute(self):
        sea = four_by_four([0, 4, 0, -4])
        for m in (-EDGE, EDGE):
            self.assertEqual(last(*sea, turns(m, 12, 0)), [5])


if __name__ == "__main__":
    unittest.main()
