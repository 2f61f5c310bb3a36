"""The sea: its mean, its waves, its surge, and how high it is at a minute, in the unit."""

from tidelocks.circle import TURN, cosine
from tidelocks.kinds import SINGLE, UNIT, add, divide, is_below, multiply, of_whole, scaled, subtract, turned

MOST_HALVINGS = 20000


class Wave:
    """high and factor are numbers, widest their product; phase and speed are parts of a turn."""

    def __init__(self, high, factor, phase, speed):
        self.high = high
        self.factor = factor
        self.widest = multiply(UNIT, high, factor)
        self.phase = phase
        self.speed = speed


class Surge:
    def __init__(self, high, begins, half):
        self.high = high
        self.begins = begins
        self.half = half


class Sea:
    """mean is in tenths of a millimetre; surge is None while there is none."""

    def __init__(self, mean):
        self.mean = mean
        self.waves = []
        self.surge = None


def place(wave, minute):
    return (wave.phase + wave.speed * minute) % TURN


def surge_tenths(surge, minute):
    """What is left of the surge; it has begun."""
    passed = divmod(minute - surge.begins, surge.half)
    faded = divide(UNIT, of_whole(passed[1]), of_whole(2 * surge.half))
    left = multiply(UNIT, of_whole(surge.high), subtract(UNIT, of_whole(1), faded))
    return scaled(UNIT, left, -min(passed[0], MOST_HALVINGS))


def tenths(sea, minute):
    """The height, in tenths of a millimetre."""
    total = of_whole(sea.mean)
    for wave in sea.waves:
        total = add(UNIT, total, multiply(UNIT, wave.widest, cosine(place(wave, minute))))
    if sea.surge is not None and minute >= sea.surge.begins:
        total = add(UNIT, total, surge_tenths(sea.surge, minute))
    return total


def as_metres(height):
    """A height, which is in tenths of a millimetre, as metres."""
    return divide(UNIT, height, of_whole(10000))


def metres(sea, minute):
    return as_metres(tenths(sea, minute))


def sea_level(sea, minute):
    """The metres as a single, as locks take them."""
    return turned(SINGLE, metres(sea, minute))


def millimetres(sea, minute):
    return divide(UNIT, tenths(sea, minute), of_whole(10))


def extremes(sea, minute, n):
    """The least and the greatest of n heights from the minute on: each one, and when it is first, from 0 on.

    They are told apart as heights, not as metres: two heights may have the same metres.
    """
    least = (tenths(sea, minute), 0)
    greatest = least
    for k in range(1, n):
        height = tenths(sea, minute + k)
        if is_below(height, least[0]):
            least = (height, k)
        if is_below(greatest[0], height):
            greatest = (height, k)
    return (least, greatest)
