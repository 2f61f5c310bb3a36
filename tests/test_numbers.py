"""Numbers, cosine and sine: what all promises rest on."""

import math
import random
import struct
import unittest

import helper
from tidelocks import circle, kinds

KINDS = ((kinds.UNIT, helper.UNIT), (kinds.DOUBLE, helper.DOUBLE), (kinds.SINGLE, helper.SINGLE))


def model(x):
    return (x[0] == 1, helper.Fraction(kinds.signed(x)) * helper.Fraction(2) ** x[2])


def some_number(source, kind, powers):
    whole = source.choice([0, 1, 2 ** kind[0] - 1, 2 ** (kind[0] - 1), source.randrange(2 ** kind[0])])
    return (source.randrange(2), whole, max(kind[1], source.randrange(*powers)))


class Numbers(unittest.TestCase):
    def check_pair(self, kind, plain, x, y):
        results = [(kinds.add, helper.plus(model(x), model(y), plain)),
                   (kinds.subtract, helper.plus(model(x), helper.opposite(model(y)), plain)),
                   (kinds.multiply, helper.times(model(x), model(y), plain))]
        if y[1]:
            results.append((kinds.divide, helper.by(model(x), model(y), plain)))
        for work, expected in results:
            told = kinds.stored_bits(kind, work(kind, x, y))
            self.assertEqual(told, helper.bits(expected, plain), (work, x, y))

    def test_each_is_rounded_to_the_nearest(self):
        source = random.Random(6)
        for kind, plain in KINDS:
            for i in range(1500):
                x = some_number(source, kind, (-70, 5))
                self.check_pair(kind, plain, x, some_number(source, kind, (-70, 5)))

    def test_near_0_with_fewer_places(self):
        source = random.Random(7)
        for kind, plain in KINDS:
            for i in range(300):
                powers = (kind[1] - 5, kind[1] + 70)
                x = some_number(source, kind, powers)
                self.check_pair(kind, plain, x, (0, source.randrange(1, 2 ** kind[0]), -kind[0]))
                self.check_pair(kind, plain, x, some_number(source, kind, (kind[1], kind[1] + 3)))

    def test_half_of_the_least_number_goes_to_the_even_one(self):
        for kind, plain in KINDS:
            for many, found in ((5, 0), (15, 2), (25, 2), (35, 4)):
                for sign in (0, 1):
                    told = kinds.stored_bits(kind, kinds.divide(kind, (sign, many, kind[1]), (0, 10, 0)))
                    self.assertEqual(told, found + (sign << kind[3]))

    def test_a_sum_of_0_and_its_sign(self):
        for kind, plain in KINDS:
            plus, minus, one = (0, 0, 0), (1, 0, 0), (0, 1, 0)
            self.assertEqual(kinds.stored_bits(kind, kinds.add(kind, minus, minus)), 1 << kind[3])
            for x, y in ((plus, minus), (minus, plus), (plus, plus), (one, (1, 1, 0)), ((1, 1, 0), one)):
                self.assertEqual(kinds.stored_bits(kind, kinds.add(kind, x, y)), 0)
            self.assertEqual(kinds.stored_bits(kind, kinds.subtract(kind, minus, plus)), 1 << kind[3])

    def test_doubles_are_pythons(self):
        source = random.Random(8)
        for i in range(500):
            value = source.uniform(-1, 1) * 2.0 ** source.randrange(-1074, 40)
            whole, below = value.as_integer_ratio()
            x = (1 if math.copysign(1, value) < 0 else 0, abs(whole), 1 - below.bit_length())
            self.assertEqual(kinds.stored_bits(kinds.DOUBLE, x), struct.unpack("<Q", struct.pack("<d", value))[0])

    def test_singles_by_their_bits(self):
        source = random.Random(9)
        edges = [0, 1, 0x7FFFFF, 0x800000, 0x3F800000, 0x7F7FFFFF]
        for bits in edges + [source.randrange(0x7F800000) for i in range(300)]:
            for sign in (0, 1 << 31):
                x = kinds.of_single(bits | sign)
                self.assertEqual(model(x), helper.number_of_single(bits | sign))
                self.assertEqual(kinds.stored_bits(kinds.SINGLE, x), bits | sign)

    def test_rounding_up_to_the_next_power_of_two(self):
        self.assertEqual(kinds.stored_bits(kinds.DOUBLE, (0, 2 ** 64 - 1, -64)), 0x3FF0000000000000)
        self.assertEqual(kinds.stored_bits(kinds.SINGLE, (1, 2 ** 64 - 1, -64)), 0xBF800000)
        self.assertEqual(kinds.stored_bits(kinds.DOUBLE, (0, 2 ** 64 - 1, -1022 - 64)), 0x0010000000000000)
        self.assertEqual(kinds.stored_bits(kinds.UNIT, (0, 2 ** 65 - 1, -16447)), 0x00018000000000000000)

    def test_whole_numbers(self):
        for x, nearest, below in (((0, 5, -1), 2, 2), ((1, 5, -1), -2, -3), ((0, 7, -1), 4, 3), ((1, 7, -2), -2, -2),
                                  ((1, 3, 2), -12, -12), ((0, 3, 2), 12, 12), ((1, 0, 0), 0, 0), ((1, 1, -9999), 0, -1)):
            self.assertEqual((kinds.nearest_whole(x), kinds.whole_below(x)), (nearest, below))


class Circle(unittest.TestCase):
    def test_the_terms_are_the_nearest(self):
        quarter = helper.Fraction(314159265358979323846264338327950288419716939937510582097494459230781640628, 4 * 10 ** 74)
        for i in range(11):
            for terms, n in ((circle.COSINE_TERMS, 2 * i), (circle.SINE_TERMS, 2 * i + 1)):
                sign, whole, power = terms[10 - i]
                exact = quarter ** n / math.factorial(n)
                self.assertEqual((sign, helper.Fraction(2) ** power * whole), (i % 2, helper.near(exact, helper.UNIT)))

    def test_cosine_and_sine_in_each_eighth(self):
        source = random.Random(10)
        for k in range(8):
            low = k * 2 ** 61
            for part in [low, low + 1, low + 2 ** 60, low + 2 ** 61 - 1] + [low + source.randrange(2 ** 61)
                                                                            for i in range(20)]:
                told = [kinds.stored_bits(kinds.UNIT, work(part)) for work in (circle.cosine, circle.sine)]
                self.assertEqual(told, [helper.unit_bits(x) for x in helper.cosine_and_sine(part)], part)

    def test_quarters(self):
        one, minus = 0x3FFF8000000000000000, 1 << 79
        told = [[kinds.stored_bits(kinds.UNIT, work(k * 2 ** 62)) for k in range(4)]
                for work in (circle.cosine, circle.sine)]
        self.assertEqual(told, [[one, minus, one + minus, 0], [0, one, minus, one + minus]])


if __name__ == "__main__":
    unittest.main()
