"""Promise 9: run."""

import random
import unittest

from helper import EDGE, ask, begin, flowed, four_by_four, last, lock, look, plain_lock, run, sea_level, single, surge
from helper import time, value_of, wave, work

ONE = single(1.0)
MINUS = 2 ** 31


def made_locks(sea, rows):
    """rows: (area, sluice, sill, inner, what) with floats; the last is worked."""
    calls = list(sea)
    for i, one in enumerate(rows):
        calls += [plain_lock(*one[:4]), work(i, one[4])]
    return calls


class RunTest(unittest.TestCase):
    def level_after(self, calls, n, i=0):
        rows = ask(*calls, run(n), look(i))
        self.assertEqual(rows[-2], [0])
        return rows[-1][1]

    def test_n_out_of_bounds(self):
        sea = four_by_four([1, 2, 3, 4])
        for n in (-1, 10001, -2 ** 31, 2 ** 31 - 1):
            rows = ask(*sea, plain_lock(inner=5.0), work(0, 1), time(1), look(0), run(n), look(0))
            self.assertEqual(rows[-2:], [[-2], rows[-3]])

    def test_n_0(self):
        sea = four_by_four([1, 2, 3, 4])
        for what in range(5):
            rows = ask(*sea, plain_lock(inner=1.0), work(0, what), time(2), look(0), run(0), look(0))
            self.assertEqual(rows[-2:], [[0], rows[-3]])

    def test_time_goes_on(self):
        sea = four_by_four([1, 2, 3, 4])
        for n in (0, 1, 2, 3, 10, 9999, 10000):
            rows = ask(*sea, plain_lock(), run(n), look(0), run(1), look(0), run(n), look(0))
            self.assertEqual([one[2] for one in rows[-5::2]],
                             [single(1.0 + k % 4) for k in (n, n + 1, 2 * n + 1)])

    def test_without_locks(self):
        self.assertEqual(ask(begin(0), run(10000), run(10000), run(-1)), [[0], [0], [0], [-2]])

    def test_past_2_60(self):
        sea = four_by_four([1, 2, 3, 4]) + [plain_lock(inner=1.0), work(0, 3)]
        for before in (0, 1, 5, 10000):
            made = sea + [time(EDGE - before)]
            self.assertEqual(last(*made, run(before)), [0])
            rows = ask(*made, look(0), run(before + 1), look(0))
            self.assertEqual(rows[-2:], [[-2], rows[-3]])
            rows = ask(*made, run(before), look(0), run(1), look(0), run(0))
            self.assertEqual(rows[-3:], [[-2], rows[-4], [0]])

    def test_from_the_least_minute(self):
        sea = four_by_four([1, 2, 3, 4])
        rows = ask(*sea, plain_lock(inner=1.0), work(0, 3), time(-EDGE), run(10000), run(2), look(0))
        self.assertEqual(rows[-3:], [[0], [0], [3, single(3.0), single(3.0), ONE, single(3.0)]])

    def test_nothing_is_let_through(self):
        self.assertEqual(self.level_after([begin(50000), plain_lock(inner=1.0)], 9), ONE)
        self.assertEqual(self.level_after([begin(50000), plain_lock(inner=1.0), work(0, 1), work(0, 0)], 9), ONE)

    def test_behind_a_gate(self):
        sea = four_by_four([1, 2, 3, 4])
        for n in (1, 2, 3, 4, 7):
            self.assertEqual(self.level_after(sea + [plain_lock(inner=1.0), work(0, 3)], n), single(1.0 + n % 4))
            # The chamber is near to the inside, and then it is at the inside's level whatever the sea does.
            self.assertEqual(self.level_after(sea + [plain_lock(inner=1.0), work(0, 4)], n), ONE)

    def test_a_gate_to_the_inside_keeps_its_sign(self):
        self.assertEqual(self.level_after([begin(0), lock(ONE, 0, 0, MINUS), work(0, 4)], 3), MINUS)

    def test_a_sluice_to_the_sea(self):
        # d = 4, root 2: a step of 2 0.25 / 1; then d = 3.5.
        made = [begin(50000), plain_lock(sluice=0.25, inner=1.0), work(0, 1)]
        self.assertEqual(self.level_after(made, 1), single(1.5))
        level = 1.0
        for n in range(1, 40):
            level = flowed(level, 5.0, 0.25, 1.0)
            self.assertEqual(self.level_after(made, n), single(level))
        self.assertEqual(level, 5.0)

    def test_it_falls_too(self):
        made = [begin(10000), plain_lock(sluice=0.25, inner=5.0), work(0, 1)]
        self.assertEqual(self.level_after(made, 1), single(4.5))
        level = 5.0
        for n in range(1, 40):
            level = flowed(level, 1.0, 0.25, 1.0)
            self.assertEqual(self.level_after(made, n), single(level))

    def test_a_sluice_to_the_inside(self):
        # The chamber is brought to the sea's 5 first, then let down to the inside's 1.
        made = [begin(50000), plain_lock(sluice=2.0, inner=1.0), work(0, 1), run(30), look(0), work(0, 2)]
        self.assertEqual(ask(*made)[-2][1], single(5.0))
        level = 5.0
        for n in range(1, 12):
            level = flowed(level, 1.0, 2.0, 1.0)
            self.assertEqual(self.level_after(made, n), single(level))

    def test_a_step_as_large_as_the_way_is_the_water_itself(self):
        # d = 4, root 2: s is the strength by 0.5, so 2 gives just a; a place below it is a step.
        for sluice, level in ((single(2.0), 5.0), (single(2.0) + 1, 5.0), (single(1e6), 5.0)):
            made = [begin(50000), lock(ONE, sluice, 0, ONE), work(0, 1)]
            self.assertEqual(self.level_after(made, 1), single(level))
        # The step is just below the way, and large beside the level: the sum isn't the water's level.
        tiny = single(2.0 ** -30)
        made = [begin(10000), lock(ONE, ONE - 2, 0, tiny), work(0, 1)]
        self.assertEqual(self.level_after(made, 1), single(flowed(value_of(tiny), 1.0, value_of(ONE - 2), 1.0)))
        self.assertNotEqual(self.level_after(made, 1), ONE)

    def test_the_area_divides(self):
        for area in (2.0 ** -10, 0.5, 3.0, 1000.0, 2.0 ** 30):
            made = [begin(50000), plain_lock(area=area, sluice=0.3, inner=1.0), work(0, 1)]
            self.assertEqual(self.level_after(made, 1), single(flowed(1.0, 5.0, single_value(0.3), area)))

    def test_each_product_and_quotient_is_rounded(self):
        source = random.Random(41)
        for i in range(150):
            area, sluice = single(source.uniform(0.1, 9)), single(source.uniform(0.0, 2))
            inner, mean = single(source.uniform(-9, 9)), source.randrange(-90000, 90000)
            sea = sea_level(mean, [], None, 0)
            expected = flowed(value_of(inner), sea, value_of(sluice), value_of(area))
            made = [begin(mean), lock(area, sluice, 0, inner), work(0, 1)]
            self.assertEqual(self.level_after(made, 1), single(expected), (area, sluice, inner, mean))

    def test_near_0_with_fewer_places(self):
        for sluice in (1, 3, 0x7FFFFF, 0x1000001):
            for inner in (0, MINUS, 1, MINUS | 5, 0x800000):
                for sea in (10000, -10000):
                    made = [begin(sea), lock(single(3.0), sluice, 0, inner), work(0, 1)]
                    expected = flowed(value_of(inner), sea / 10000, value_of(sluice), 3.0)
                    self.assertEqual(self.level_after(made, 1), single(expected))

    def test_sluice_0(self):
        for sluice in (0, MINUS):
            for sea in (50000, -50000):
                made = [begin(sea), lock(ONE, sluice, 0, single(2.0)), work(0, 1)]
                self.assertEqual(self.level_after(made, 5), single(2.0))
        # A way of 0 has no step below it: the level is the water's.
        self.assertEqual(self.level_after([begin(20000), lock(ONE, 0, 0, single(2.0)), work(0, 1)], 5), single(2.0))

    def test_a_level_of_0_and_its_sign(self):
        # -0 and +0 is +0, -0 and -0 is -0; the step's sign is turned where the sea is below.
        for sluice, sea, told in ((0, 10000, 0), (0, -10000, MINUS), (MINUS, 10000, MINUS), (MINUS, -10000, 0)):
            self.assertEqual(self.level_after([begin(sea), lock(ONE, sluice, 0, MINUS), work(0, 1)], 1), told)

    def test_no_way_with_either_sign(self):
        # The sea's +0 takes the chamber's -0's place, and the inside's -0 the chamber's +0's.
        self.assertEqual(self.level_after([begin(0), lock(ONE, ONE, 0, MINUS), work(0, 1)], 1), 0)
        made = [begin(0), lock(ONE, ONE, 0, MINUS), work(0, 3), work(0, 0), work(0, 2)]
        self.assertEqual(ask(*made, look(0))[-1][1], 0)
        self.assertEqual(self.level_after(made, 1), MINUS)

    def test_the_sea_of_each_minute_from_the_next_on(self):
        sea = four_by_four([1, 9, 3, 6])
        heights = [1.0, 9.0, 3.0, 6.0]
        level = 1.0
        for n in range(1, 30):
            level = flowed(level, heights[n % 4], 0.5, 2.0)
            made = sea + [plain_lock(area=2.0, sluice=0.5, inner=1.0), work(0, 1)]
            self.assertEqual(self.level_after(made, n), single(level))

    def test_n_10000(self):
        sea = four_by_four([1, 9, 3, 6])
        heights = [1.0, 9.0, 3.0, 6.0]
        made = sea + [plain_lock(area=700.0, sluice=0.7, inner=-4.0), work(0, 1),
                      plain_lock(area=800.0, sluice=0.125, inner=5.0), work(1, 1), run(50), work(1, 2)]
        first = second = None
        levels = [-4.0, 5.0]
        sluice = single_value(0.7)
        for k in range(1, 10051):
            first = flowed(levels[0], heights[k % 4], sluice, 700.0)
            second = flowed(levels[1], heights[k % 4] if k <= 50 else 5.0, 0.125, 800.0)
            levels = [first, second]
        rows = ask(*made, run(10000), look(0), look(1))
        self.assertEqual([rows[-2][1], rows[-1][1]], [single(first), single(second)])

    def test_several_at_once(self):
        source = random.Random(42)
        for i in range(6):
            waves = [(source.randrange(5000, 20000), ONE, source.randrange(2 ** 64), 2 ** 64 // source.randrange(9, 40))
                     for one in range(2)]
            surged = (source.randrange(-30000, 30000), source.randrange(1, 20), source.randrange(1, 9))
            mean, start, n = source.randrange(-9000, 9000), source.randrange(-3, 3), source.randrange(5, 30)
            at_start = sea_level(mean, waves, surged, start)
            rows = [(source.choice([1.0, 50.0]), source.choice([0.0, 0.5, 4.0]), 0.0, source.uniform(-3, 3), what)
                    for what in (0, 1, 2, 1, 2, 4)]
            rows.append((1.0, 1.0, 0.0, at_start, 3))
            made = made_locks([begin(mean)] + [wave(*one) for one in waves] + [surge(*surged), time(start)], rows)
            levels = [single_value(one[3]) for one in rows]
            for k in range(start + 1, start + n + 1):
                sea = sea_level(mean, waves, surged, k)
                levels = [self.passed(one, level, sea) for one, level in zip(rows, levels)]
            told = ask(*made, run(n), *[look(one) for one in range(len(rows))])[-len(rows):]
            self.assertEqual([one[1] for one in told], [single(one) for one in levels])
            self.assertEqual({one[2] for one in told}, {single(sea)})
            # Minute by minute it's the same.
            again = ask(*made, *[run(1)] * n, *[look(one) for one in range(len(rows))])[-len(rows):]
            self.assertEqual(again, told)

    def passed(self, one, level, sea):
        area, sluice, sill, inner, what = one
        water = sea if what in (1, 3) else single_value(inner)
        if what == 0:
            return level
        return water if what > 2 else flowed(level, water, sluice, area)

    def test_a_sluice_to_the_inside_while_the_sea_moves(self):
        sea = four_by_four([1, 9, 3, 6])
        made = sea + [plain_lock(sluice=0.25, inner=-2.0), work(0, 1), run(5), work(0, 2)]
        level = -2.0
        for k in range(1, 6):
            level = flowed(level, [1.0, 9.0, 3.0, 6.0][k % 4], 0.25, 1.0)
        for n in range(1, 9):
            level = flowed(level, -2.0, 0.25, 1.0)
            self.assertEqual(self.level_after(made, n), single(level))


def single_value(value):
    return value_of(single(value))


if __name__ == "__main__":
    unittest.main()
