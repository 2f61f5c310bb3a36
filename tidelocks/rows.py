"""Rows of the sea's heights minute by minute, in singles, without the surge; high and low water in them."""

from tidelocks.circle import cosine, sine
from tidelocks.kinds import SINGLE, UNIT, add, is_below, multiply, of_whole, subtract, turned
from tidelocks.sea import as_metres, place

GROUP = 4
NOTHING = (0, 0, 0)


class Pair:
    """A wave in a row: its factor, where it is (a, b), and how far it turns in a minute (g, h)."""

    def __init__(self, wave, minute):
        first = place(wave, minute)
        self.factor = wave.factor
        self.a = single_metres(multiply(UNIT, wave.high, cosine(first)))
        self.b = single_metres(multiply(UNIT, wave.high, sine(first)))
        self.g = turned(SINGLE, cosine(wave.speed))
        self.h = turned(SINGLE, sine(wave.speed))


def single_metres(height):
    return turned(SINGLE, as_metres(height))


def go_on(pair):
    """A minute passes."""
    a = subtract(SINGLE, multiply(SINGLE, pair.a, pair.g), multiply(SINGLE, pair.b, pair.h))
    pair.b = add(SINGLE, multiply(SINGLE, pair.b, pair.g), multiply(SINGLE, pair.a, pair.h))
    pair.a = a


def row_height(mean, pairs):
    products = [multiply(SINGLE, pair.factor, pair.a) for pair in pairs]
    while len(products) % GROUP > 0:
        products.append(NOTHING)
    total = mean
    for at in range(0, len(products), GROUP):
        former = add(SINGLE, products[at], products[at + 1])
        latter = add(SINGLE, products[at + 2], products[at + 3])
        total = add(SINGLE, total, add(SINGLE, former, latter))
    return total


def heights(sea, minute, n):
    """The row of n heights from the minute on."""
    mean = single_metres(of_whole(sea.mean))
    pairs = [Pair(wave, minute) for wave in sea.waves]
    found = []
    while len(found) < n:
        found.append(row_height(mean, pairs))
        for pair in pairs:
            go_on(pair)
    return found


def is_high_water(before, height, after):
    return is_below(before, height) and not is_below(height, after)


def is_low_water(before, height, after):
    return is_below(height, before) and not is_below(after, height)


def high_and_low(row):
    """Which of the row are high and low waters, in order; of low water the opposite."""
    found = []
    for k in range(1, len(row) - 1):
        if is_high_water(row[k - 1], row[k], row[k + 1]):
            found.append(k)
        elif is_low_water(row[k - 1], row[k], row[k + 1]):
            found.append(-k)
    return found
