"""Locks between the sea and the waters inside, in singles and metres."""

from tidelocks.kinds import SIGN, SINGLE, add, divide, is_below, multiply, opposite, root, subtract, without_sign
from tidelocks.sea import sea_level

# A lock's way: which of its sluices and gates lets water through.
SHUT = 0
SEA_SLUICE = 1
INNER_SLUICE = 2
SEA_GATE = 3
INNER_GATE = 4
SLUICES = (1, 2)
GATES = (3, 4)

A_32TH = (0, 1, -5)
HALF = (0, 1, -1)


class Lock:
    def __init__(self, area, sluice, sill, inner):
        self.area = area
        self.sluice = sluice
        self.sill = sill
        self.inner = inner
        self.level = inner
        self.way = SHUT


def depth(lock, level):
    return subtract(SINGLE, level, lock.sill)


def is_deep_enough(lock, level, draught):
    return not is_below(depth(lock, level), add(SINGLE, draught, HALF))


def is_near(level, other):
    return not is_below(A_32TH, without_sign(subtract(SINGLE, level, other)))


def can_be_set(lock, way, water):
    """water is the level behind the way."""
    if way == SHUT:
        return True
    if way in SLUICES:
        return lock.way not in GATES
    if lock.way in GATES and lock.way != way:
        return False
    return is_near(water, lock.level)


def set_way(lock, way, water):
    lock.way = way
    if way in GATES:
        lock.level = water


def flow(lock, water):
    """A minute passes with a sluice let up to the water."""
    rise = subtract(SINGLE, water, lock.level)
    least = without_sign(rise)
    step = divide(SINGLE, multiply(SINGLE, lock.sluice, root(SINGLE, least)), lock.area)
    if not is_below(step, least):
        lock.level = water
    elif rise[SIGN]:
        lock.level = add(SINGLE, lock.level, opposite(step))
    else:
        lock.level = add(SINGLE, lock.level, step)


def pass_minutes(locks, sea, first, last):
    """The minutes from first to last pass.

    The sea's level is dear, so it's asked for as seldom as may be: every minute only for a sluice. What a gate
    lets in is gone a minute later, so there the last minute is enough.
    """
    levels = []
    if any([lock.way == SEA_SLUICE for lock in locks]):
        levels = [sea_level(sea, minute) for minute in range(first, last + 1)]
    for lock in locks:
        if lock.way == SEA_SLUICE:
            for level in levels:
                flow(lock, level)
        elif lock.way == INNER_SLUICE:
            for minute in range(first, last + 1):
                flow(lock, lock.inner)
        elif lock.way == SEA_GATE:
            lock.level = sea_level(sea, last)
        elif lock.way == INNER_GATE:
            lock.level = lock.inner
