"""The sea: its mean, its waves, its surge, and how high it is at a minute, in the unit."""

from tidelocks.circle import TURN, cosine
from tidelocks.kinds import UNIT, add, divide, multiply, of_whole, scaled, subtract

MOST_HALVINGS = 20000


class Wave:
    """high is a whole number, factor a number; phase and speed are parts of a turn."""

    def __init__(self, high, factor, phase, speed):
        self.high = high
        self.factor = factor
        self.phase = phase
        self.speed = speed


class Surge:
    def __init__(self, high, begins, half):
        self.high = high
        self.begins = begins
        self.half = half


class Sea:
    """mean is in tenths of a millimetre; surge is None while there is none."""

    def __init__(self, mean):
        self.mean = mean
        self.waves = []
        self.surge = None


def wave_tenths(wave, minute):
    widest = multiply(UNIT, of_whole(wave.high), wave.factor)
    return multiply(UNIT, widest, cosine((wave.phase + wave.speed * minute) % TURN))


def surge_tenths(surge, minute):
    """What is left of the surge; it has begun."""
    passed = divmod(minute - surge.begins, surge.half)
    faded = divide(UNIT, of_whole(passed[1]), of_whole(2 * surge.half))
    left = multiply(UNIT, of_whole(surge.high), subtract(UNIT, of_whole(1), faded))
    return scaled(UNIT, left, -min(passed[0], MOST_HALVINGS))


def tenths(sea, minute):
    """The height, in tenths of a millimetre."""
    total = of_whole(sea.mean)
    for wave in sea.waves:
        total = add(UNIT, total, wave_tenths(wave, minute))
    if sea.surge is not None and minute >= sea.surge.begins:
        total = add(UNIT, total, surge_tenths(sea.surge, minute))
    return total


def metres(sea, minute):
    return divide(UNIT, tenths(sea, minute), of_whole(10000))


def millimetres(sea, minute):
    return divide(UNIT, tenths(sea, minute), of_whole(10))
