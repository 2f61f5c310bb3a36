"""Numbers, cosine and sine: what all promises rest on."""

import math
import random
import struct
import unittest

import helper
from tidelocks import circle, kinds

KINDS = ((kinds.UNIT, helper.UNIT), (kinds.DOUBLE, helper.DOUBLE), (kinds.SINGLE, helper.SINGLE))


def model(x):
    return (x[0] == 1, helper.Fraction(kinds.signed(x)) * helper.Fraction(2) ** x[2])


def some_number(source, kind, powers):
    whole = source.choice([0, 1, 2 ** kind[0] - 1, 2 ** (kind[0] - 1), source.randrange(2 ** kind[0])])
    return (source.randrange(2), whole, max(kind[1], source.randrange(*powers)))


class Numbers(unittest.TestCase):
    def check_pair(self, kind, plain, x, y):
        results = [(kinds.add, helper.plus(model(x), model(y), plain)),
                   (kinds.subtract, helper.plus(model(x), helper.opposite(model(y)), plain)),
                   (kinds.multiply, helper.times(model(x), model(y), plain))]
        if y[1]:
            results.append((kinds.divide, helper.by(model(x), model(y), plain)))
        for work, expected in results:
            told = kinds.stored_bits(kind, work(kind, x, y))
            self.assertEqual(told, helper.bits(expected, plain), (work, x, y))

    def test_each_is_rounded_to_the_nearest(self):
        source = random.Random(6)
        for kind, plain in KINDS:
            for i in range(1500):
                x = some_number(source, kind, (-70, 5))
                self.check_pair(kind, plain, x, some_number(source, kind, (-70, 5)))

    def test_near_0_with_fewer_places(self):
        source = random.Random(7)
        for kind, plain in KINDS:
            for i in range(300):
                powers = (kind[1] - 5, kind[1] + 70)
                x = some_number(source, kind, powers)
                self.check_pair(kind, plain, x, (0, source.randrange(1, 2 ** kind[0]), -kind[0]))
                self.check_pair(kind, plain, x, some_number(source, kind, (kind[1], kind[1] + 3)))

    def test_half_of_the_least_number_goes_to_the_even_one(self):
        for kind, plain in KINDS:
            for many, found in ((5, 0), (15, 2), (25, 2), (35, 4)):
                for sign in (0, 1):
                    told = kinds.stored_bits(kind, kinds.divide(kind, (sign, many, kind[1]), (0, 10, 0)))
                    self.assertEqual(told, found + (sign << kind[3]))

    def test_a_sum_of_0_and_its_sign(self):
        for kind, plain in KINDS:
            plus, minus, one = (0, 0, 0), (1, 0, 0), (0, 1, 0)
            self.assertEqual(kinds.stored_bits(kind, kinds.add(kind, minus, minus)), 1 << kind[3])
            for x, y in ((plus, minus), (minus, plus), (plus, plus), (one, (1, 1, 0)), ((1, 1, 0), one)):
                self.assertEqual(kinds.stored_bits(kind, kinds.add(kind, x, y)), 0)
            self.assertEqual(kinds.stored_bits(kind, kinds.subtract(kind, minus, plus)), 1 << kind[3])

    def test_doubles_are_pythons(self):
        source = random.Random(8)
        for i in range(500):
            value = source.uniform(-1, 1) * 2.0 ** source.randrange(-1074, 40)
            whole, below = value.as_integer_ratio()
            x = (1 if math.copysign(1, value) < 0 else 0, abs(whole), 1 - below.bit_length())
            self.assertEqual(kinds.stored_bits(kinds.DOUBLE, x), struct.unpack("<Q", struct.pack("<d", value))[0])

    def test_singles_by_their_bits(self):
        source = random.Random(9)
        edges = [0, 1, 0x7FFFFF, 0x800000, 0x3F800000, 0x7F7FFFFF]
        for bits in edges + [source.randrange(0x7F800000) for i in range(300)]:
            for sign in (0, 1 << 31):
                x = kinds.of_single(bits | sign)
                self.assertEqual(model(x), helper.number_of_single(bits | sign))
                self.assertEqual(kinds.stored_bits(kinds.SINGLE, x), bits | sign)

    def test_rounding_up_to_the_next_power_of_two(self):
        self.assertEqual(kinds.stored_bits(kinds.DOUBLE, (0, 2 ** 64 - 1, -64)), 0x3FF0000000000000)
        self.assertEqual(kinds.stored_bits(kinds.SINGLE, (1, 2 ** 64 - 1, -64)), 0xBF800000)
        self.assertEqual(kinds.stored_bits(kinds.DOUBLE, (0, 2 ** 64 - 1, -1022 - 64)), 0x0010000000000000)
        self.assertEqual(kinds.stored_bits(kinds.UNIT, (0, 2 ** 65 - 1, -16447)), 0x00018000000000000000)

    def test_roots(self):
        source = random.Random(11)
        for kind, plain in KINDS:
            for i in range(400):
                x = some_number(source, kind, (-90, 30))
                told = model(kinds.turned(kind, kinds.root(kind, (0, x[1], x[2]))))
                exact = abs(model(x)[1])
                # The square is between those of the two halves beside it; a half itself can't be a root.
                step = helper.Fraction(2) ** (kinds.root(kind, (0, x[1], x[2]))[2] if x[1] else 0)
                self.assertEqual(told, (False, helper.near(told[1], plain)))
                if x[1]:
                    self.assertLess((told[1] - step / 2) ** 2, exact)
                    self.assertLess(exact, (told[1] + step / 2) ** 2)
                else:
                    self.assertEqual(told, (False, 0))

    def test_roots_of_singles_are_a_doubles(self):
        source = random.Random(12)
        edges = [0, 1, 2, 3, 0x7FFFFF, 0x800000, 0x3F800000, 0x3F7FFFFF, 0x3F800001, 0x40800000, 0x4A000000]
        for stored in edges + [source.randrange(0x7F800000) for i in range(1000)]:
            expected = helper.single(math.sqrt(helper.value_of(stored)))
            told = kinds.root(kinds.SINGLE, kinds.of_single(stored))
            self.assertEqual(kinds.stored_bits(kinds.SINGLE, told), expected, stored)

    def test_whole_roots(self):
        source = random.Random(13)
        for value in list(range(70)) + [k * k + beside for k in (2 ** 26, 2 ** 66 - 1) for beside in (-1, 0, 1)]:
            self.assertEqual(kinds.whole_root(value), math.isqrt(value))
        for i in range(200):
            value = source.randrange(2 ** source.randrange(1, 140))
            self.assertEqual(kinds.whole_root(value), math.isqrt(value))

    def test_below_is_by_worth(self):
        source = random.Random(14)
        for i in range(400):
            x, y = [some_number(source, kinds.SINGLE, (-30, 5)) for k in range(2)]
            self.assertEqual(kinds.is_below(x, y), model(x)[1] < model(y)[1])
        for x, y in (((0, 0, 0), (1, 0, -9)), ((1, 0, 5), (0, 0, 0)), ((0, 2, 3), (0, 4, 2)), ((1, 2, 3), (1, 16, 0))):
            self.assertFalse(kinds.is_below(x, y))
            self.assertFalse(kinds.is_below(y, x))

    def test_without_its_sign(self):
        self.assertEqual([kinds.without_sign(x) for x in ((1, 5, -2), (0, 5, -2), (1, 0, 0))],
                         [(0, 5, -2), (0, 5, -2), (0, 0, 0)])

    def test_whole_numbers(self):
        for x, nearest, below in (((0, 5, -1), 2, 2), ((1, 5, -1), -2, -3), ((0, 7, -1), 4, 3), ((1, 7, -2), -2, -2),
                                  ((1, 3, 2), -12, -12), ((0, 3, 2), 12, 12), ((1, 0, 0), 0, 0), ((1, 1, -9999), 0, -1)):
            self.assertEqual((kinds.nearest_whole(x), kinds.whole_below(x)), (nearest, below))


class Circle(unittest.TestCase):
    def test_the_terms_are_the_nearest(self):
        quarter = helper.Fraction(314159265358979323846264338327950288419716939937510582097494459230781640628, 4 * 10 ** 74)
        for i in range(11):
            for terms, n in ((circle.COSINE_TERMS, 2 * i), (circle.SINE_TERMS, 2 * i + 1)):
                whole, power = terms[10 - i]
                exact = quarter ** n / math.factorial(n)
                self.assertEqual(helper.Fraction(2) ** power * whole, helper.near(exact, helper.UNIT))

    def test_cosine_and_sine_in_each_eighth(self):
        source = random.Random(10)
        for k in range(8):
            low = k * 2 ** 61
            for part in [low, low + 1, low + 2 ** 60, low + 2 ** 61 - 1] + [low + source.randrange(2 ** 61)
                                                                            for i in range(20)]:
                told = [kinds.stored_bits(kinds.UNIT, work(part)) for work in (circle.cosine, circle.sine)]
                self.assertEqual(told, [helper.unit_bits(x) for x in helper.cosine_and_sine(part)], part)

    def test_the_tenth_terms_count(self):
        # They are so small that few places show it: the first two would have another cosine, the others another sine.
        for y in (0x1E8BF14CCB9391D5, 0x1F78C938A97F9747, 0x1D6A084B702E5640, 0x1FDFBA3D86A84B7B):
            for k in range(8):
                part = k * 2 ** 61 + (2 ** 61 - y if k % 2 else y)
                told = [kinds.stored_bits(kinds.UNIT, work(part)) for work in (circle.cosine, circle.sine)]
                self.assertEqual(told, [helper.unit_bits(x) for x in helper.cosine_and_sine(part)], part)

    def test_quarters(self):
        one, minus = 0x3FFF8000000000000000, 1 << 79
        told = [[kinds.stored_bits(kinds.UNIT, work(k * 2 ** 62)) for k in range(4)]
                for work in (circle.cosine, circle.sine)]
        self.assertEqual(told, [[one, minus, one + minus, 0], [0, one, minus, one + minus]])


if __name__ == "__main__":
    unittest.main()
