"""Promises 7 and 8: lock, time and work."""

import unittest

from helper import EDGE, ask, begin, four_by_four, last, lock, look, may, plain_lock, run, single, surge, time
from helper import value_of, wave, when, work

ONE = single(1.0)
MINUS = 2 ** 31
INFINITE = 0x7F800000
NO_NUMBERS = (0x7F800001, 0x7FC00000, 0x7FFFFFFF, 0xFF800001, 0xFFC00000, 0xFFFFFFFF)
LEAST_AREA = single(2.0 ** -10)
MOST_AREA = single(2.0 ** 30)
MOST = single(2.0 ** 20)
A_32TH = single(1 / 32)


class LockTest(unittest.TestCase):
    def taken(self, *four):
        self.assertEqual(ask(begin(0), lock(*four), look(0))[1], [0], four)

    def refused(self, *four):
        self.assertEqual(ask(begin(0), lock(*four), look(0), plain_lock())[1:], [[-3], [-2], [0]], four)

    def test_numbers_from_0_on(self):
        self.assertEqual(ask(begin(0), plain_lock(), plain_lock(), plain_lock()), [[0], [0], [1], [2]])

    def test_area(self):
        for area in (LEAST_AREA, LEAST_AREA + 1, ONE, MOST_AREA - 1, MOST_AREA):
            self.taken(area, 0, 0, 0)
            self.refused(area | MINUS, 0, 0, 0)
        for area in (0, MINUS, 1, LEAST_AREA - 1, MOST_AREA + 1, INFINITE, INFINITE | MINUS) + NO_NUMBERS:
            self.refused(area, 0, 0, 0)

    def test_sluice(self):
        for sluice in (0, MINUS, 1, ONE, MOST - 1, MOST):
            self.taken(ONE, sluice, 0, 0)
        for sluice in (MINUS | 1, ONE | MINUS, MOST | MINUS, MOST + 1, INFINITE, INFINITE | MINUS) + NO_NUMBERS:
            self.refused(ONE, sluice, 0, 0)

    def test_sill_and_inner(self):
        for level in (0, 1, ONE, MOST - 1, MOST):
            for sign in (0, MINUS):
                self.taken(ONE, 0, level | sign, 0)
                self.taken(ONE, 0, 0, level | sign)
        for level in (MOST + 1, INFINITE, 0x7F7FFFFF):
            for sign in (0, MINUS):
                self.refused(ONE, 0, level | sign, 0)
                self.refused(ONE, 0, 0, level | sign)
        for level in NO_NUMBERS:
            self.refused(ONE, 0, level, 0)
            self.refused(ONE, 0, 0, level)

    def test_the_chamber_is_at_first_as_high_as_the_inside(self):
        for inner in (0, MINUS, ONE, MOST | MINUS, 1):
            told = last(begin(10000), lock(ONE, ONE, 0, inner), look(0))
            self.assertEqual(told[:4], [0, inner, ONE, inner])

    def test_the_16th_and_the_17th(self):
        full = [begin(0)] + [plain_lock()] * 16
        rows = ask(*full, plain_lock(), look(15), look(16))
        self.assertEqual(rows[1:17], [[i] for i in range(16)])
        self.assertEqual(rows[17:], [[-1], [0, 0, 0, 0, 0], [-2]])

    def test_what_is_not_taken_is_refused_ahead_of_the_room(self):
        full = [begin(0)] + [plain_lock()] * 16
        for four in ((0, 0, 0, 0), (ONE, ONE | MINUS, 0, 0), (ONE, 0, MOST + 1, 0), (ONE, 0, 0, 0x7FC00000)):
            self.assertEqual(last(*full, lock(*four)), [-3])

    def test_begin_takes_them_away(self):
        full = [begin(0)] + [plain_lock(inner=3.0)] * 16
        rows = ask(*full, work(0, 1), begin(10000), look(0), plain_lock(inner=2.0), look(0))
        self.assertEqual(rows[-4:], [[0], [-2], [0], [0, single(2.0), ONE, single(2.0), single(2.0)]])

    def test_a_refused_begin_does_not(self):
        rows = ask(begin(0), plain_lock(inner=3.0), time(5), work(0, 4), look(0), begin(10 ** 9 + 1), look(0))
        self.assertEqual(rows[-2:], [[-3], rows[-3]])


class TimeTest(unittest.TestCase):
    def test_its_bounds(self):
        sea = four_by_four([1, 2, 3, 4])
        for m, level in ((0, 1.0), (1, 2.0), (-1, 4.0), (EDGE, 1.0), (-EDGE, 1.0), (EDGE - 1, 4.0), (-EDGE + 1, 2.0)):
            rows = ask(*sea, plain_lock(), time(m), look(0))
            self.assertEqual((rows[-2], rows[-1][2]), ([0], single(level)))

    def test_out_of_bounds(self):
        sea = four_by_four([1, 2, 3, 4])
        for m in (-EDGE - 1, EDGE + 1, -2 ** 63, 2 ** 63 - 1):
            rows = ask(*sea, plain_lock(), time(2), time(m), look(0))
            self.assertEqual((rows[-2], rows[-1][2]), ([-2], single(3.0)))

    def test_at_first_it_is_0(self):
        sea = four_by_four([1, 2, 3, 4])
        self.assertEqual(last(*sea, plain_lock(), look(0))[2], single(1.0))
        self.assertEqual(last(begin(0), time(3), *sea, plain_lock(), look(0))[2], single(1.0))

    def test_nothing_flows(self):
        sea = four_by_four([1, 2, 3, 4])
        for what in (0, 1, 2, 3, 4):
            made = sea + [plain_lock(inner=1.0), work(0, what)]
            for m in (1, 2, 10 ** 6 + 3, -5):
                rows = ask(*made, look(0), time(m), look(0))
                self.assertEqual(rows[-4], [0])
                self.assertEqual(rows[-1][:2] + rows[-1][3:], rows[-3][:2] + rows[-3][3:])
                self.assertEqual(rows[-1][2], single([1.0, 2.0, 3.0, 4.0][m % 4]))


class WorkTest(unittest.TestCase):
    def test_each_in_each_state(self):
        # The sea, the chamber and the inside are alike, so nothing but what's open refuses.
        made = [begin(10000), plain_lock(inner=1.0)]
        refused = ((3, 1), (3, 2), (3, 4), (4, 1), (4, 2), (4, 3))
        for state in range(5):
            for what in range(5):
                rows = ask(*made, work(0, state), look(0), work(0, what), look(0))
                self.assertEqual((rows[2], rows[3][0]), ([0], state))
                if (state, what) in refused:
                    self.assertEqual(rows[4:], [[-4], rows[3]], (state, what))
                else:
                    self.assertEqual((rows[4], rows[5][0]), ([0], what), (state, what))

    def test_no_such_lock(self):
        made = [begin(0), plain_lock(), plain_lock()]
        for i in (-1, 2, 3, -2 ** 31, 2 ** 31 - 1):
            for what in (0, 3, 5):
                self.assertEqual(last(*made, work(i, what)), [-2])
        self.assertEqual(last(begin(0), work(0, 0)), [-2])

    def test_no_such_work(self):
        made = [begin(0), plain_lock(), work(0, 1)]
        for what in (-1, 5, -2 ** 31, 2 ** 31 - 1):
            self.assertEqual(ask(*made, work(0, what), look(0))[3:], [[-2], [1, 0, 0, 0, 0]])

    def test_out_of_bounds_is_told_ahead_of_refused(self):
        for what in (5, -1):
            self.assertEqual(last(begin(0), plain_lock(), work(0, 3), work(0, what)), [-2])
        self.assertEqual(last(begin(0), plain_lock(), work(0, 3), work(1, 4)), [-2])

    def test_each_lock_by_itself(self):
        rows = ask(begin(0), plain_lock(), plain_lock(), plain_lock(), work(1, 3), work(2, 2), work(0, 4),
                   look(0), look(1), look(2))
        self.assertEqual([one[0] for one in rows[-3:]], [4, 3, 2])

    def sea_and_chamber(self, sea, inner):
        """The sea is a metre by a factor, so it may be any single."""
        return [begin(0), wave(10000, sea, 0, 0), lock(ONE, ONE, 0, inner)]

    def test_gate_to_the_sea_just_near_and_just_not(self):
        for sign in (0, MINUS):
            rows = ask(*self.sea_and_chamber(0, A_32TH | sign), work(0, 3), look(0))
            self.assertEqual(rows[3:], [[0], [3, 0, 0, A_32TH | sign, 0]])
            rows = ask(*self.sea_and_chamber(0, A_32TH + 1 | sign), look(0), work(0, 3), look(0))
            self.assertEqual(rows[4:], [[-4], rows[3]])
            rows = ask(*self.sea_and_chamber(A_32TH | sign, 0), work(0, 3), look(0))
            self.assertEqual(rows[3:], [[0], [3, A_32TH | sign, A_32TH | sign, 0, A_32TH | sign]])
            rows = ask(*self.sea_and_chamber(A_32TH + 1 | sign, 0), look(0), work(0, 3), look(0))
            self.assertEqual(rows[4:], [[-4], rows[3]])

    def test_the_difference_is_a_single(self):
        # 1/32 and 2^-40 is 1/32 as a single: near.
        tiny = single(2.0 ** -40)
        self.assertEqual(last(*self.sea_and_chamber(A_32TH, tiny | MINUS), work(0, 3)), [0])
        self.assertEqual(last(*self.sea_and_chamber(A_32TH | MINUS, tiny), work(0, 3)), [0])
        self.assertEqual(last(*self.sea_and_chamber(A_32TH, single(2.0 ** -28) | MINUS), work(0, 3)), [-4])

    def test_gate_to_the_inside_just_near_and_just_not(self):
        # A strong sluice brings the chamber to the sea's level in a minute.
        strong = single(1024.0)
        for sign in (0, MINUS):
            for sea, inner, told in ((0, A_32TH | sign, 0), (0, A_32TH + 1 | sign, -4),
                                     (A_32TH | sign, 0, 0), (A_32TH + 1 | sign, 0, -4)):
                rows = ask(begin(0), wave(10000, sea, 0, 0), lock(ONE, strong, 0, inner), work(0, 1), run(1),
                           look(0), work(0, 4), look(0))
                self.assertEqual(rows[5][:4], [1, sea, sea, inner])
                self.assertEqual(rows[6], [told])
                self.assertEqual(rows[7], rows[5] if told else [4, inner, sea, inner, inner])

    def test_the_gate_asks_for_its_own_water(self):
        # Near to the inside, far from the sea; then the other way round.
        self.assertEqual(ask(begin(50000), plain_lock(inner=1.0), work(0, 3), work(0, 4))[2:], [[-4], [0]])
        rows = ask(begin(50000), plain_lock(sluice=1024.0, inner=1.0), work(0, 1), run(1), work(0, 4), work(0, 3),
                   look(0))
        self.assertEqual(rows[4:], [[-4], [0], [3, single(5.0), single(5.0), ONE, single(5.0)]])

    def test_by_the_sea_at_the_harbours_time(self):
        sea = four_by_four([1, 2, 3, 4])
        for m in range(4):
            for inner in range(4):
                told = last(*sea, plain_lock(inner=inner + 1.0), time(m), work(0, 3))
                self.assertEqual(told, [0] if m == inner else [-4])

    def test_the_surge_is_counted(self):
        self.assertEqual(last(begin(0), surge(10000, 0, 100), plain_lock(inner=1.0), work(0, 3)), [0])
        self.assertEqual(last(begin(0), surge(10000, 1, 100), plain_lock(inner=1.0), work(0, 3)), [-4])

    def test_the_same_gate_again(self):
        # The sea has gone on while nothing flowed: too far at minute 1, again near at minute 4.
        sea = four_by_four([1, 2, 3, 4])
        rows = ask(*sea, plain_lock(inner=1.0), work(0, 3), time(1), look(0), work(0, 3), look(0), time(4), work(0, 3))
        self.assertEqual(rows[-4:], [[-4], rows[-5], [0], [0]])
        # Near, so the chamber takes the sea's level anew.
        rows = ask(begin(0), plain_lock(), work(0, 3), surge(100, 0, 10), work(0, 3), look(0))
        self.assertEqual(rows[-2:], [[0], [3, single(0.01), single(0.01), 0, single(0.01)]])

    def test_a_gate_from_an_open_sluice_leaves_the_gate_alone(self):
        for sluice in (1, 2):
            for gate in (3, 4):
                rows = ask(begin(0), plain_lock(), work(0, sluice), work(0, gate), look(0), work(0, sluice), work(0, 0),
                           work(0, sluice), look(0))
                self.assertEqual([rows[3], rows[4][0], rows[5], rows[6], rows[7], rows[8][0]],
                                 [[0], gate, [-4], [0], [0], sluice])

    def test_the_level_is_the_waters_with_its_sign(self):
        self.assertEqual(last(begin(0), lock(ONE, 0, 0, MINUS), work(0, 3), look(0)), [3, 0, 0, MINUS, 0])
        rows = ask(begin(0), lock(ONE, 0, 0, MINUS), work(0, 3), work(0, 0), work(0, 4), look(0))
        self.assertEqual(rows[-1], [4, MINUS, 0, MINUS, MINUS])

    def test_only_a_gate_changes_the_level(self):
        for what in (0, 1, 2):
            self.assertEqual(last(begin(100), plain_lock(inner=5.0), work(0, what), look(0))[1], single(5.0))
            made = [begin(100), plain_lock(inner=0.02), work(0, 3), work(0, 0)]
            self.assertEqual(last(*made, work(0, what), look(0))[1], single(0.01))

    def test_a_sluice_asks_for_no_level(self):
        # The chamber is at 3, far from the sea's 9 and the inside's 1.
        made = [begin(90000), plain_lock(sluice=0.7071067690849304, inner=1.0), work(0, 1), run(1)]
        for what in (0, 1, 2):
            for then in (0, 1, 2):
                rows = ask(*made, look(0), work(0, what), work(0, then), look(0))
                self.assertEqual(rows[-3:], [[0], [0], [then] + rows[-4][1:]])
                self.assertAlmostEqual(value_of(rows[-1][1]), 3.0, 5)
            for gate in (3, 4):
                self.assertEqual(last(*made, work(0, what), work(0, gate)), [-4])

    def test_may_and_when_leave_it(self):
        rows = ask(begin(0), plain_lock(), work(0, 2), look(0), may(0, 0), when(0, 0, 5), look(0))
        self.assertEqual(rows[3], rows[-1])


if __name__ == "__main__":
    unittest.main()
