"""What the tests share: calls written out, answers call by call, and a model over exact fractions.

The model is made from the document alone and draws nothing from the package but `answers`.
"""

import math
import struct
from fractions import Fraction

from tidelocks.harbour import answers

UNIT = (64, -16445)
DOUBLE = (53, -1074)
SINGLE = (24, -149)

EDGE = 2 ** 60


def begin(mean):
    return [0, mean]


def mark(ten):
    return [1, 10] + list(ten)


def wave(high, factor, phase, speed):
    return [2, high, factor, phase, speed]


def surge(high, begins, half):
    return [3, high, begins, half]


def height(m):
    return [4, m]


def double(m):
    return [5, m]


def mm(m):
    return [7, m]


def floor(m):
    return [8, m]


def decimal(m):
    return [9, m]


def text(m):
    return [10, m]


def span(m, n):
    """The document calls it range."""
    return [11, m, n]


def row(m, n):
    return [12, m, n]


def turns(m, n, most):
    return [13, m, n, most]


def lock(area, sluice, sill, inner):
    return [14, area, sluice, sill, inner]


def work(i, what):
    return [15, i, what]


def time(m):
    return [16, m]


def run(n):
    return [17, n]


def may(i, draught):
    return [18, i, draught]


def look(i):
    return [19, i]


def when(i, draught, n):
    return [20, i, draught, n]


def plain_lock(area=1.0, sluice=1.0, sill=0.0, inner=0.0):
    """A lock of Python floats that singles can hold."""
    return lock(single(area), single(sluice), single(sill), single(inner))


MINUTE_CALLS = (height, double, mm, floor, decimal, text,
                lambda m: span(m, 2), lambda m: row(m, 2), lambda m: turns(m, 3, 1), time)


def ask(*calls):
    """A list of answers, a list of numbers for each call."""
    handed = [number for call in calls for number in call]
    told = answers(handed)
    rows = []
    at = 0
    while at < len(told):
        rows.append(told[at + 1:at + 1 + told[at]])
        at += 1 + told[at]
    return rows


def last(*calls):
    return ask(*calls)[-1]


def single(value):
    """The bits of the single nearest to a Python float."""
    return struct.unpack("<I", struct.pack("<f", value))[0]


def value_of(stored):
    """The Python float that a single's bits tell."""
    return struct.unpack("<f", struct.pack("<I", stored))[0]


def digits(value):
    """The nine bytes of a packed decimal without its sign."""
    shown = str(value).zfill(18)
    return [int(shown[i:i + 2], 16) for i in range(16, -2, -2)]


def plus_64(value):
    return value + 2 ** 64 if value < 0 else value


# A number of the model is (minus, worth): minus tells the sign, for 0 too; worth is exact.

def near(value, kind):
    """The number of the kind nearest to an exact one, of two as near the even one."""
    worth = abs(value)
    if worth == 0:
        return Fraction(0)
    power = worth.numerator.bit_length() - worth.denominator.bit_length()
    if worth < Fraction(2) ** power:
        power -= 1
    step = Fraction(2) ** max(power - kind[0] + 1, kind[1])
    found = round(worth / step) * step
    return -found if value < 0 else found


def number(value):
    return (value < 0, Fraction(value))


def turned(x, kind):
    return (x[0], near(x[1], kind))


def opposite(x):
    return (not x[0], -x[1])


def plus(x, y, kind=UNIT):
    total = x[1] + y[1]
    if total == 0:
        return (x[0] and y[0], total)
    return (total < 0, near(total, kind))


def times(x, y, kind=UNIT):
    return (x[0] != y[0], near(x[1] * y[1], kind))


def by(x, y, kind=UNIT):
    return (x[0] != y[0], near(x[1] / y[1], kind))


def bits(x, kind):
    """The bits of a model's number that is one of the kind's."""
    places, least = kind
    width = {64: 79, 53: 63, 24: 31}[places]
    stored = 64 if places == 64 else places - 1
    worth = abs(x[1]) / Fraction(2) ** least
    assert worth.denominator == 1
    whole, field = int(worth), 0
    if whole >> (places - 1):
        field = whole.bit_length() - places + 1
        whole >>= field - 1
    return (x[0] << width) | (field << stored) | (whole & (2 ** stored - 1))


COSINES = (
    (0x8000000000000000, 63), (0x9DE9E64DF22EF2D2, 65), (0x81E0F840DAD61D9B, 69), (0xAAE9E3F1E5FFCFE3, 75),
    (0xF0FA83448DD5D7A3, 82), (0xD368F95102545D4D, 89), (0xFCE9C51BB1E6146F, 97), (0xDB7127A25894796E, 105),
    (0x9063161796BFA54C, 113), (0x95062C8D7C18A243, 122), (0xF7B71846B68E1C74, 132),
)
SINES = (
    (0xC90FDAA22168C235, 64), (0xA55DE7312DF295F5, 67), (0xA335E33BAD570E92, 72), (0x9969667315EC2DF3, 78),
    (0xA83C1A43F73C0DC8, 85), (0xF183A7EF4438FB12, 93), (0xF47A1A680C6B1994, 101), (0xB7D6DCF8AABA1C8B, 109),
    (0xD5761957C99AC950, 118), (0xC5202108FCAA382E, 127), (0x943B8106A9677C6C, 136),
)


def series(table, u):
    total = None
    for i in range(10, -1, -1):
        term = number(Fraction(table[i][0], 2 ** table[i][1]) * (-1) ** i)
        total = term if total is None else plus(times(total, u), term)
    return total


def cosine_and_sine(p):
    k = p // 2 ** 61
    y = p % 2 ** 61
    if k % 2:
        y = 2 ** 61 - y
    x = number(Fraction(y, 2 ** 61))
    u = times(x, x)
    c = series(COSINES, u)
    s = times(x, series(SINES, u))
    d, t = opposite(c), opposite(s)
    return ((c, s), (s, c), (t, c), (d, s), (d, t), (t, d), (s, d), (c, t))[k]


def number_of_single(stored):
    return (stored >> 31 == 1, Fraction(value_of(stored)))


def tenths(mean, waves, surged, m):
    """waves: rows (high, factor, phase, speed); surged: None or (high, begins, half)."""
    t = number(mean)
    for high, factor, phase, speed in waves:
        place = (phase + speed * m) % 2 ** 64
        t = plus(t, times(times(number(high), number_of_single(factor)), cosine_and_sine(place)[0]))
    if surged and m >= surged[1]:
        high, begins, half = surged
        q, r = divmod(m - begins, half)
        left = plus(number(1), opposite(by(number(r), number(2 * half))))
        t = plus(t, times(times(number(high), left), number(Fraction(1, 2 ** min(q, 20000)))))
    return t


def metres(mean, waves, surged, m):
    return by(tenths(mean, waves, surged, m), number(10000))


def unit_bits(x):
    return bits(x, UNIT)


def double_bits(x):
    return bits(turned(x, DOUBLE), DOUBLE)


def single_bits(x):
    return bits(turned(x, SINGLE), SINGLE)


# Singles are Python floats here: a double's sum, product, quotient or root of singles, rounded to a single, is the
# single's own, as a double has more than twice a single's places.

def rounded(value):
    return struct.unpack("<f", struct.pack("<f", value))[0]


def sea_level(mean, waves, surged, m):
    return value_of(single_bits(metres(mean, waves, surged, m)))


def pair_of(one, m):
    """A wave's pair and turn at a row's first minute."""
    high, factor, phase, speed = one
    at = cosine_and_sine((phase + speed * m) % 2 ** 64)
    first = [value_of(single_bits(by(times(number(high), part), number(10000)))) for part in at]
    return first, [value_of(single_bits(part)) for part in cosine_and_sine(speed)]


def row_height(mean, waves, pairs):
    t = value_of(single_bits(by(number(mean), number(10000))))
    products = [rounded(value_of(one[1]) * pair[0][0]) for one, pair in zip(waves, pairs)]
    products += [0.0] * (-len(products) % 4)
    for i in range(0, len(products), 4):
        p = products[i:i + 4]
        t = rounded(t + rounded(rounded(p[0] + p[1]) + rounded(p[2] + p[3])))
    return t


def row_bits(mean, waves, m, n):
    pairs = [pair_of(one, m) for one in waves]
    told = []
    for k in range(n):
        told.append(single(row_height(mean, waves, pairs)))
        for pair in pairs:
            (a, b), (g, h) = pair
            pair[0][:] = [rounded(rounded(a * g) - rounded(b * h)), rounded(rounded(b * g) + rounded(a * h))]
    return told


def flowed(level, water, sluice, area):
    """A chamber's level after a minute with a sluice up."""
    d = rounded(water - level)
    a = abs(d)
    s = rounded(rounded(sluice * rounded(math.sqrt(a))) / area)
    if not s < a:
        return water
    return rounded(level - s) if math.copysign(1.0, d) < 0 else rounded(level + s)


def four_by_four(four):
    """Calls for a sea whose heights from minute 0 on are these four whole metres again and again, just so."""
    middle = Fraction(sum(four), 4)
    x = [one - middle for one in four]
    waves = [((x[0] - x[2]) / 2, 0, 2 ** 62), ((x[1] - x[3]) / 2, 3 * 2 ** 62, 2 ** 62),
             ((x[0] - x[1] + x[2] - x[3]) / 4, 0, 2 ** 63)]
    return [begin(int(middle * 10000))] + [wave(int(high * 10000), single(1.0), phase, speed)
                                                  for high, phase, speed in waves]
