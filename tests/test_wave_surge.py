"""Promise 2: wave and surge."""

import unittest

from helper import EDGE, ask, begin, double, floor, height, last, metres, mm, single, surge, unit_bits, wave

ONE = single(1.0)
SIXTEEN = 0x41800000
MINUS = 0x80000000
QUARTER = 2 ** 62


class WaveTest(unittest.TestCase):
    def test_numbers_from_0_on(self):
        self.assertEqual(ask(begin(0), wave(10, ONE, 0, 0), wave(20, ONE, 0, 0), wave(30, ONE, 0, 0), mm(0)),
                         [[0], [0], [1], [2], [0, 6]])

    def test_factor_without_end_or_no_number_is_refused(self):
        for factor in (0x7F800000, 0x7F800001, 0x7FC00000, 0x7FFFFFFF):
            for sign in (0, MINUS):
                self.assertEqual(ask(begin(50), wave(1000, factor | sign, 0, 0), mm(0), wave(10, ONE, 0, 0)),
                                 [[0], [-3], [0, 5], [0]])

    def test_factor_at_and_above_16(self):
        self.assertEqual(ask(begin(0), wave(10, SIXTEEN, 0, 0), mm(0)), [[0], [0], [0, 16]])
        self.assertEqual(ask(begin(0), wave(10, SIXTEEN | MINUS, 0, 0), mm(0)), [[0], [0], [0, 2 ** 64 - 16]])
        for factor in (SIXTEEN + 1, SIXTEEN + 1 | MINUS, single(17.0), 0x7F7FFFFF, 0xFF7FFFFF):
            self.assertEqual(ask(begin(0), wave(10, factor, 0, 0), mm(0)), [[0], [-3], [0, 0]])

    def test_factor_0_with_either_sign(self):
        for factor in (0, MINUS):
            self.assertEqual(ask(begin(0), wave(1000, factor, 0, 0), height(0)), [[0], [0], [0, 0]])
            self.assertEqual(ask(begin(10000), wave(-1000, factor, 0, 0), height(0))[2], [0, 0x3FFF8000000000000000])

    def test_factor_near_0_with_fewer_places(self):
        for factor in (1, 3, 0x7FFFFF, 0x800000, MINUS | 1, MINUS | 0x7FFFFF):
            given = (7777, factor, 12345, 0)
            self.assertEqual(last(begin(0), wave(*given), height(0)), [0, unit_bits(metres(0, [given], None, 0))])

    def test_the_least_and_the_greatest_high(self):
        self.assertEqual(last(begin(0), wave(-2 ** 31, ONE, 0, 0), floor(0)), [0, 2 ** 64 - 214748365])
        self.assertEqual(last(begin(0), wave(2 ** 31 - 1, ONE, 0, 0), floor(0)), [0, 214748364])

    def test_the_64th_and_the_65th(self):
        # More calls than a line holds; else there would be no 65th wave.
        full = [begin(0)] + [wave(10, ONE, 0, 0)] * 64
        rows = ask(*full, mm(0), wave(10, ONE, 0, 0), mm(0))
        self.assertEqual(rows[1:65], [[i] for i in range(64)])
        self.assertEqual(rows[65:], [[0, 64], [-1], [0, 64]])

    def test_the_factor_is_refused_ahead_of_the_room(self):
        full = [begin(0)] + [wave(10, ONE, 0, 0)] * 64
        self.assertEqual(last(*full, wave(10, SIXTEEN + 1, 0, 0)), [-3])
        self.assertEqual(last(*full, wave(10, 0x7FC00000, 0, 0)), [-3])
        self.assertEqual(last(*full, begin(0), wave(10, ONE, 0, 0)), [0])

    def test_phase_and_speed_to_their_bounds(self):
        most = 2 ** 64 - 1
        for m in (-3, 0, 1, 2, EDGE, -EDGE):
            given = (123456, single(1.5), most, most)
            self.assertEqual(last(begin(1), wave(*given), height(m)), [0, unit_bits(metres(1, [given], None, m))])


class SurgeTest(unittest.TestCase):
    def test_it_begins_and_fades_by_halves(self):
        made = [begin(10), surge(800, 5, 4)]
        told = [last(*made, mm(m))[1] for m in (4, 5, 7, 9, 13, 17)]
        self.assertEqual(told, [1, 81, 61, 41, 21, 11])

    def test_half_below_1_is_refused(self):
        made = [begin(10), surge(800, 5, 4)]
        for half in (0, -1, -2 ** 31):
            self.assertEqual(ask(*made, surge(7000, 0, half), mm(5))[2:], [[-2], [0, 81]])
        self.assertEqual(ask(*made, surge(400, 5, 1), mm(5), mm(6))[2:], [[0], [0, 41], [0, 21]])
        self.assertEqual(ask(*made, surge(400, 5, 2 ** 31 - 1), mm(5))[2:], [[0], [0, 41]])

    def test_begins_at_and_past_its_bounds(self):
        for begins in (-EDGE, EDGE):
            self.assertEqual(ask(begin(0), surge(50, begins, 1), mm(begins)), [[0], [0], [0, 5]])
        for begins in (-EDGE - 1, EDGE + 1, -2 ** 63, 2 ** 63 - 1):
            self.assertEqual(ask(begin(0), surge(50, 0, 1), surge(90, begins, 1), mm(0))[2:], [[-2], [0, 5]])
            self.assertEqual(last(begin(0), surge(90, begins, 0)), [-2])

    def test_it_takes_an_earlier_ones_place(self):
        rows = ask(begin(0), surge(50, 0, 1000), surge(900, 10, 1000), mm(0), mm(10))
        self.assertEqual(rows, [[0], [0], [0], [0, 0], [0, 90]])

    def test_heights_to_the_bit(self):
        for surged in ((12345, -7, 13), (-2 ** 31, 0, 3), (2 ** 31 - 1, 100, 2 ** 31 - 1), (0, 0, 5)):
            for after in (-1, 0, 1, 2, 3, 12, 13, 14, 100, 831, 10 ** 6):
                m = surged[1] + after
                self.assertEqual(last(begin(3), surge(*surged), height(m)), [0, unit_bits(metres(3, [], surged, m))])

    def test_near_0_it_is_rounded_once(self):
        for surged in ((12345, 0, 3), (-12345, -10, 7), (2 ** 31 - 1, 5, 11), (-2 ** 31, 0, 1)):
            for q in list(range(16365, 16400)) + list(range(16440, 16480)):
                for r in (0, surged[2] // 2, surged[2] - 1):
                    m = surged[1] + q * surged[2] + r
                    expected = unit_bits(metres(0, [], surged, m))
                    self.assertEqual(last(begin(0), surge(*surged), height(m)), [0, expected])

    def test_long_after_it_is_0_with_its_sign_lost_in_the_sum(self):
        for high in (2 ** 31 - 1, -2 ** 31):
            for q in (19999, 20000, 20001, 10 ** 9, EDGE):
                self.assertEqual(ask(begin(0), surge(high, 0, 1), height(q), double(q), floor(q))[2:],
                                 [[0, 0], [0, 0], [0, 0]])
        self.assertEqual(last(begin(0), surge(-1, -EDGE, 1), height(EDGE)), [0, 0])

    def test_waves_are_added_ahead_of_it(self):
        # Large waves that nearly cancel: another order of the sums would round otherwise.
        given = [(2 ** 31 - 1, SIXTEEN, 3, 0), (-2 ** 31 + 1, SIXTEEN, 2 ** 60 + 1, 0)]
        surged = (77777, 0, 1009)
        for m in range(0, 40):
            self.assertEqual(last(begin(1), surge(*surged), *[wave(*one) for one in given], height(m)),
                             [0, unit_bits(metres(1, given, surged, m))])


if __name__ == "__main__":
    unittest.main()
