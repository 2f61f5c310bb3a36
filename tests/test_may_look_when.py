"""Promise 10: may, look and when."""

import unittest

from helper import EDGE, ask, begin, four_by_four, last, lock, look, may, plain_lock, run, single, surge, time
from helper import wave, when, work

ONE = single(1.0)
MINUS = 2 ** 31
MOST = single(1024.0)
NOT_TAKEN = (MOST + 1, single(2000.0), 0x7F7FFFFF, 0x7F800000, 0xFF800000, 0x7F800001, 0x7FC00000, 0xFFC00000,
             MINUS | 1, ONE | MINUS, MOST | MINUS, 0xFFFFFFFF)
NO_LOCKS = (-1, 1, 2, -2 ** 31, 2 ** 31 - 1)


class MayTest(unittest.TestCase):
    def told(self, level, sill, draught):
        return last(begin(0), lock(ONE, ONE, sill, level), may(0, draught))

    def test_just_deep_enough_and_just_not(self):
        for level, sill, draught in ((3.5, 0.0, 3.0), (3.5, 1.0, 2.0), (-2.0, -5.0, 2.5), (6.0, -1.0, 6.5)):
            self.assertEqual(self.told(single(level), single(sill), single(draught)), [1])
            self.assertEqual(self.told(single(level), single(sill), single(draught) + 1), [0])
            less = single(level) + (1 if level < 0 else -1)
            self.assertEqual(self.told(less, single(sill), single(draught)), [0])

    def test_both_sides_are_singles(self):
        # 0.5 and the least single is 0.5, and 0.5 - 2^-40 is 0.5 too: deep enough.
        self.assertEqual(self.told(single(0.5), 0, 1), [1])
        self.assertEqual(self.told(single(0.5), single(2.0 ** -40), 0), [1])
        self.assertEqual(self.told(single(0.5), single(2.0 ** -24), 0), [0])
        # 7 and 2 less a place is as near to 9 as to the single below it, and 9 is the even one.
        self.assertEqual(self.told(single(7.0) - 1, single(-2.0), single(8.5)), [1])
        self.assertEqual(self.told(single(7.0) - 2, single(-2.0), single(8.5)), [0])

    def test_draught_0_with_either_sign_and_1024(self):
        for draught in (0, MINUS):
            self.assertEqual(self.told(single(0.5), 0, draught), [1])
            self.assertEqual(self.told(single(0.5) - 1, 0, draught), [0])
        self.assertEqual(self.told(single(1024.5), 0, MOST), [1])
        self.assertEqual(self.told(single(1024.5) - 1, 0, MOST), [0])

    def test_draught_not_taken(self):
        for draught in NOT_TAKEN:
            self.assertEqual(self.told(MOST, 0, draught), [-3])

    def test_no_such_lock(self):
        for i in NO_LOCKS:
            for draught in (0, ONE) + NOT_TAKEN:
                self.assertEqual(last(begin(0), plain_lock(), may(i, draught)), [-2])

    def test_it_is_the_chamber(self):
        made = [begin(90000), plain_lock(sluice=1024.0, inner=2.0)]
        self.assertEqual(ask(*made, may(0, single(1.5)), may(0, single(5.0)), work(0, 1), run(1), may(0, single(5.0)),
                             may(0, single(8.5)), may(0, single(8.6)))[2:], [[1], [0], [0], [0], [1], [1], [0]])

    def test_each_lock_by_itself(self):
        made = [begin(0), plain_lock(inner=2.0), plain_lock(inner=5.0, sill=4.0)]
        self.assertEqual(ask(*made, may(0, ONE), may(1, ONE))[3:], [[1], [0]])


class LookTest(unittest.TestCase):
    def test_no_such_lock(self):
        for i in NO_LOCKS:
            self.assertEqual(last(begin(0), plain_lock(), look(i)), [-2])
        self.assertEqual(last(begin(0), look(0)), [-2])

    def test_the_five_numbers_in_each_state(self):
        for what in range(5):
            told = last(begin(20000), plain_lock(inner=2.0, sill=-1.5), work(0, what), look(0))
            self.assertEqual(told, [what, single(2.0), single(2.0), single(2.0), single(3.5)])

    def test_each_has_its_place(self):
        made = [begin(90000), plain_lock(sluice=0.5, inner=5.0, sill=1.25)]
        self.assertEqual(last(*made, look(0)), [0] + [single(one) for one in (5.0, 9.0, 5.0, 3.75)])
        self.assertEqual(last(*made, work(0, 1), run(1), look(0)), [1] + [single(one) for one in (6.0, 9.0, 5.0, 4.75)])

    def test_after_run_and_after_time(self):
        sea = four_by_four([1, 2, 3, 4]) + [plain_lock(inner=1.0, sill=0.5), work(0, 3)]
        rows = ask(*sea, look(0), run(2), look(0), time(1), look(0), time(7), look(0), run(3), look(0))
        told = [[3] + [single(one) for one in four] for four in
                ((1.0, 1.0, 1.0, 0.5), (3.0, 3.0, 1.0, 2.5), (3.0, 2.0, 1.0, 2.5), (3.0, 4.0, 1.0, 2.5),
                 (3.0, 3.0, 1.0, 2.5))]
        self.assertEqual(rows[-9::2], told)

    def test_the_seas_level_is_its_metres_as_a_single(self):
        self.assertEqual(last(begin(1), plain_lock(), look(0))[2], single(0.0001))
        self.assertEqual(last(begin(123456789), plain_lock(), look(0))[2], single(12345.6789))
        self.assertEqual(last(begin(-10 ** 9), plain_lock(), look(0))[2], single(-100000.0))
        self.assertEqual(last(begin(0), surge(-12345, 0, 9), plain_lock(), look(0))[2], single(-1.2345))
        for factor in (0x41800000, 0x40000001, 3, MINUS | 1, 0x7FFFFF):
            self.assertEqual(last(begin(0), wave(10000, factor, 0, 0), plain_lock(), look(0))[2], factor)

    def test_a_depth_of_0_and_its_sign(self):
        for inner, sill, told in ((0, 0, 0), (MINUS, 0, MINUS), (0, MINUS, 0), (MINUS, MINUS, 0), (ONE, ONE, 0)):
            self.assertEqual(last(begin(0), lock(ONE, 0, sill, inner), look(0)), [0, inner, 0, inner, told])

    def test_a_depth_is_rounded(self):
        self.assertEqual(last(begin(0), lock(ONE, 0, single(0.1), single(16.3)), look(0))[4],
                         single(16.299999237060547 - 0.10000000149011612))


class WhenTest(unittest.TestCase):
    SEA = four_by_four([1, 2, 3, 4])

    def told(self, draught, n, m=0, sill=0.0):
        return last(*self.SEA, plain_lock(sill=sill), time(m), when(0, single(draught), n))

    def test_at_once_later_and_never(self):
        self.assertEqual(self.told(0.5, 10), [0])
        self.assertEqual(self.told(1.0, 10), [1])
        self.assertEqual(self.told(2.0, 10), [2])
        self.assertEqual(self.told(3.5, 10), [3])
        self.assertEqual(self.told(3.6, 10), [10])
        self.assertEqual(self.told(3.6, 10000), [10000])

    def test_n(self):
        for n in (0, 1, 2, 3):
            self.assertEqual(self.told(3.5, n), [n])
        self.assertEqual(self.told(3.5, 4), [3])
        self.assertEqual(self.told(0.0, 0), [0])
        self.assertEqual(self.told(1000.0, 0), [0])

    def test_from_the_harbours_time_on(self):
        for m in (1, 2, 3, 4, -1, -EDGE, EDGE, EDGE - 1):
            self.assertEqual(self.told(3.5, 10, m), [(3 - m) % 4])
            self.assertEqual(self.told(3.6, 10, m), [10])

    def test_over_the_sill(self):
        self.assertEqual([self.told(1.0, 10, 0, sill) for sill in (-5.0, 0.0, 0.5, 0.6, 1.5, 2.5, 2.6, 9.0)],
                         [[0], [1], [1], [2], [2], [3], [10], [10]])

    def test_just_deep_enough_and_just_not(self):
        # A place above 1.5 and 0.5 is as near to 2 as to the single above it, and 2 is the even one; so with 3.5.
        for draught, told in ((single(1.5), 1), (single(1.5) + 1, 1), (single(1.5) + 2, 2), (single(2.5), 2),
                              (single(2.5) + 1, 3), (single(3.5), 3), (single(3.5) + 1, 3), (single(3.5) + 2, 7)):
            self.assertEqual(last(*self.SEA, plain_lock(), when(0, draught, 7)), [told])

    def test_the_surge_is_counted(self):
        self.assertEqual(last(begin(0), surge(50000, 6, 100), plain_lock(), when(0, single(4.0), 50)), [6])
        # It fades by half in 4 minutes: 5, then 4.375, then 3.75.
        self.assertEqual(last(begin(-80000), surge(50000, 6, 4), plain_lock(sill=-10.0), when(0, single(6.5), 50)), [6])

    def test_neither_the_chamber_nor_the_gates_count(self):
        for what in range(5):
            made = self.SEA + [plain_lock(inner=1.0), work(0, what), plain_lock(inner=900.0)]
            self.assertEqual(ask(*made, when(0, single(2.0), 9), when(1, single(2.0), 9))[-2:], [[2], [2]])

    def test_draught(self):
        for draught in (0, MINUS):
            self.assertEqual(last(begin(5000), plain_lock(), when(0, draught, 9)), [0])
            self.assertEqual(last(begin(4999), plain_lock(), when(0, draught, 9)), [9])
        self.assertEqual(last(begin(10245000), plain_lock(), when(0, MOST, 9)), [0])
        for draught in NOT_TAKEN:
            for n in (0, 9, 10000):
                self.assertEqual(last(begin(0), plain_lock(), when(0, draught, n)), [-3])

    def test_out_of_bounds_is_told_ahead_of_not_taken(self):
        for n in (-1, 10001, -2 ** 31, 2 ** 31 - 1):
            for draught in (0, 0x7FC00000, MOST + 1):
                self.assertEqual(last(begin(0), plain_lock(), when(0, draught, n)), [-2])
        for i in NO_LOCKS:
            for draught, n in ((0, 5), (0x7FC00000, 5), (0, -1), (MOST + 1, 10001)):
                self.assertEqual(last(begin(0), plain_lock(), when(i, draught, n)), [-2])

    def test_the_harbour_is_as_it_was(self):
        made = self.SEA + [plain_lock(inner=1.0, sluice=0.25), work(0, 1), plain_lock(inner=1.0), work(1, 3), time(1)]
        for draught, n in ((3.5, 9), (900.0, 500), (0.0, 0), (0.0, 5)):
            rows = ask(*made, look(0), look(1), when(0, single(draught), n), look(0), look(1), run(3), look(0), look(1))
            self.assertEqual(rows[-5:-3], rows[-8:-6])
            self.assertEqual(rows[-2:], ask(*made, run(3), look(0), look(1))[-2:])


if __name__ == "__main__":
    unittest.main()
