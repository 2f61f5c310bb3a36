"""The calls on one harbour, one behind another, and what each of them answers.

Each call's function takes the harbour and the call's numbers, and answers a list of numbers.
"""

from tidelocks.digits import is_packed, metres_text, packed, unpacked
from tidelocks.kinds import DOUBLE, SINGLE, UNIT, nearest_whole, of_single, of_whole, stored_bits, whole_below
from tidelocks.locks import INNER_GATE, SEA_GATE, SHUT, Lock, can_be_set, depth, is_deep_enough, pass_minutes, set_way
from tidelocks.rows import heights, high_and_low
from tidelocks.sea import Sea, Surge, Wave, as_metres, extremes, metres, millimetres, sea_level

NO_ROOM = -1
OUT_OF_BOUNDS = -2
NOT_TAKEN = -3
REFUSED = -4

MARK = 1

MOST_MEAN = 1000000000
MOST_MARK = 100000000
MOST_WAVES = 64
MOST_LOCKS = 16
MOST_MINUTES = 10000
MOST_MINUTE = 0x1000000000000000
WHOLE_NUMBERS = 0x10000000000000000
SMALL_NUMBERS = 0x100000000

# Singles by their bits: without a sign they are ordered as their bits are, with infinite ones and those that are
# no number above all others.
SIGN_OF_SINGLE = 0x80000000
MOST_FACTOR = 0x41800000
LEAST_AREA = 0x3A800000
MOST_AREA = 0x4E800000
MOST_SLUICE = 0x49800000
MOST_LEVEL = 0x49800000
MOST_DRAUGHT = 0x44800000


class Harbour:
    def __init__(self):
        self.sea = Sea(0)
        self.locks = []
        self.now = 0


def is_minute(m):
    return -MOST_MINUTE <= m <= MOST_MINUTE


def is_count(n):
    return 0 <= n <= MOST_MINUTES


def is_within(single, most):
    """Whether the single, without its sign, isn't above most."""
    return single % SIGN_OF_SINGLE <= most


def is_from_zero(single, most):
    """Whether the single is from 0, which has either sign, to most."""
    return single <= most or single == SIGN_OF_SINGLE


def has_lock(harbour, i):
    return 0 <= i < len(harbour.locks)


def begin(harbour, given):
    if abs(given[0]) > MOST_MEAN:
        return [NOT_TAKEN]
    harbour.sea = Sea(given[0])
    harbour.locks = []
    harbour.now = 0
    return [0]


def mark(harbour, given):
    if not is_packed(given):
        return [NOT_TAKEN]
    value = unpacked(given)
    if abs(value) > MOST_MARK:
        return [NOT_TAKEN]
    harbour.sea.mean = 10 * value
    return [0]


def wave(harbour, given):
    if not is_within(given[1], MOST_FACTOR):
        return [NOT_TAKEN]
    waves = harbour.sea.waves
    if len(waves) == MOST_WAVES:
        return [NO_ROOM]
    waves.append(Wave(of_whole(given[0]), of_single(given[1]), given[2], given[3]))
    return [len(waves) - 1]


def surge(harbour, given):
    if not is_minute(given[1]) or given[2] < 1:
        return [OUT_OF_BOUNDS]
    harbour.sea.surge = Surge(given[0], given[1], given[2])
    return [0]


def height(harbour, given):
    return [0, stored_bits(UNIT, metres(harbour.sea, given[0]))]


def double(harbour, given):
    return [0, stored_bits(DOUBLE, metres(harbour.sea, given[0]))]


def whole_millimetres(harbour, m):
    return nearest_whole(millimetres(harbour.sea, m))


def mm(harbour, given):
    return [0, whole_millimetres(harbour, given[0]) % WHOLE_NUMBERS]


def floor(harbour, given):
    return [0, whole_below(millimetres(harbour.sea, given[0])) % WHOLE_NUMBERS]


def decimal(harbour, given):
    return [0] + packed(whole_millimetres(harbour, given[0]))


def text(harbour, given):
    signs = metres_text(whole_millimetres(harbour, given[0]))
    return [len(signs)] + [ord(sign) for sign in signs]


def least_and_greatest(harbour, given):
    if not 1 <= given[1] <= MOST_MINUTES:
        return [OUT_OF_BOUNDS]
    found = extremes(harbour.sea, given[0], given[1])
    worths = [stored_bits(UNIT, as_metres(one[0])) for one in found]
    return [0] + worths + [one[1] for one in found]


def row(harbour, given):
    if not is_count(given[1]):
        return [OUT_OF_BOUNDS]
    return [0] + [stored_bits(SINGLE, one) for one in heights(harbour.sea, given[0], given[1])]


def turns(harbour, given):
    if not is_count(given[1]) or not is_count(given[2]):
        return [OUT_OF_BOUNDS]
    whole_row = heights(harbour.sea, given[0], given[1])
    found = high_and_low(whole_row)
    first = found[:given[2]]
    times = [k % SMALL_NUMBERS for k in first]
    return [len(found)] + times + [stored_bits(SINGLE, whole_row[abs(k)]) for k in first]


def is_lock(given):
    area = given[0]
    if not LEAST_AREA <= area <= MOST_AREA or not is_from_zero(given[1], MOST_SLUICE):
        return False
    return is_within(given[2], MOST_LEVEL) and is_within(given[3], MOST_LEVEL)


def lock(harbour, given):
    if not is_lock(given):
        return [NOT_TAKEN]
    if len(harbour.locks) == MOST_LOCKS:
        return [NO_ROOM]
    singles = [of_single(one) for one in given]
    harbour.locks.append(Lock(singles[0], singles[1], singles[2], singles[3]))
    return [len(harbour.locks) - 1]


def level_now(harbour):
    return sea_level(harbour.sea, harbour.now)


def work(harbour, given):
    if not has_lock(harbour, given[0]) or not SHUT <= given[1] <= INNER_GATE:
        return [OUT_OF_BOUNDS]
    chosen = harbour.locks[given[0]]
    way = given[1]
    water = level_now(harbour) if way == SEA_GATE else chosen.inner
    if not can_be_set(chosen, way, water):
        return [REFUSED]
    set_way(chosen, way, water)
    return [0]


def set_time(harbour, given):
    harbour.now = given[0]
    return [0]


def run(harbour, given):
    last = harbour.now + given[0]
    if not is_count(given[0]) or not is_minute(last):
        return [OUT_OF_BOUNDS]
    if given[0] > 0:
        pass_minutes(harbour.locks, harbour.sea, harbour.now + 1, last)
        harbour.now = last
    return [0]


def may(harbour, given):
    if not has_lock(harbour, given[0]):
        return [OUT_OF_BOUNDS]
    if not is_from_zero(given[1], MOST_DRAUGHT):
        return [NOT_TAKEN]
    chosen = harbour.locks[given[0]]
    return [1 if is_deep_enough(chosen, chosen.level, of_single(given[1])) else 0]


def look(harbour, given):
    if not has_lock(harbour, given[0]):
        return [OUT_OF_BOUNDS]
    chosen = harbour.locks[given[0]]
    singles = (chosen.level, level_now(harbour), chosen.inner, depth(chosen, chosen.level))
    return [chosen.way] + [stored_bits(SINGLE, one) for one in singles]


def when(harbour, given):
    if not has_lock(harbour, given[0]) or not is_count(given[2]):
        return [OUT_OF_BOUNDS]
    if not is_from_zero(given[1], MOST_DRAUGHT):
        return [NOT_TAKEN]
    chosen = harbour.locks[given[0]]
    draught = of_single(given[1])
    for k in range(given[2]):
        if is_deep_enough(chosen, sea_level(harbour.sea, harbour.now + k), draught):
            return [k]
    return [given[2]]


CALLS = {
    0: begin,
    1: mark,
    2: wave,
    3: surge,
    4: height,
    5: double,
    7: mm,
    8: floor,
    9: decimal,
    10: text,
    11: least_and_greatest,
    12: row,
    13: turns,
    14: lock,
    15: work,
    16: set_time,
    17: run,
    18: may,
    19: look,
    20: when,
}

# How many numbers stand behind a call's own; mark tells its own count.
COUNTS = {
    0: 1, 2: 4, 3: 3, 4: 1, 5: 1, 7: 1, 8: 1, 9: 1, 10: 1, 11: 2,
    12: 2, 13: 3, 14: 4, 15: 2, 16: 1, 17: 1, 18: 2, 19: 1, 20: 3,
}

# The calls whose first number is a minute m: they share its refusal.
OF_A_MINUTE = (4, 5, 7, 8, 9, 10, 11, 12, 13, 16)


def answer_to(harbour, number, given):
    if number in OF_A_MINUTE and not is_minute(given[0]):
        return [OUT_OF_BOUNDS]
    return CALLS[number](harbour, given)


def answers(calls):
    harbour = Harbour()
    told = []
    at = 0
    while at < len(calls):
        number = calls[at]
        first = at + 1
        count = COUNTS.get(number, 0)
        if number == MARK:
            count = calls[first]
            first = first + 1
        answer = answer_to(harbour, number, calls[first:first + count])
        told.append(len(answer))
        told.extend(answer)
        at = first + count
    return told
