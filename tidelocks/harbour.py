"""The calls on one harbour, one behind another, and what each of them answers.

Each call's function takes the harbour and the call's numbers, and answers a list of numbers.
"""

from tidelocks.digits import is_packed, metres_text, packed, unpacked
from tidelocks.kinds import DOUBLE, UNIT, nearest_whole, of_single, stored_bits, whole_below
from tidelocks.sea import Sea, Surge, Wave, metres, millimetres

NO_ROOM = -1
OUT_OF_BOUNDS = -2
NOT_TAKEN = -3

MARK = 1

MOST_MEAN = 1000000000
MOST_MARK = 100000000
MOST_WAVES = 64
MOST_MINUTE = 0x1000000000000000
SIXTEEN_AS_SINGLE = 0x41800000
SIGN_OF_SINGLE = 0x80000000
WHOLE_NUMBERS = 0x10000000000000000


class Harbour:
    def __init__(self):
        self.sea = Sea(0)


def is_minute(m):
    return -MOST_MINUTE <= m <= MOST_MINUTE


def begin(harbour, given):
    if abs(given[0]) > MOST_MEAN:
        return [NOT_TAKEN]
    harbour.sea = Sea(given[0])
    return [0]


def mark(harbour, given):
    if not is_packed(given):
        return [NOT_TAKEN]
    value = unpacked(given)
    if abs(value) > MOST_MARK:
        return [NOT_TAKEN]
    harbour.sea.mean = 10 * value
    return [0]


def wave(harbour, given):
    # Infinite singles and those that are no number have bits above those of 16, as larger ones have.
    if given[1] % SIGN_OF_SINGLE > SIXTEEN_AS_SINGLE:
        return [NOT_TAKEN]
    waves = harbour.sea.waves
    if len(waves) == MOST_WAVES:
        return [NO_ROOM]
    waves.append(Wave(given[0], of_single(given[1]), given[2], given[3]))
    return [len(waves) - 1]


def surge(harbour, given):
    if not is_minute(given[1]) or given[2] < 1:
        return [OUT_OF_BOUNDS]
    harbour.sea.surge = Surge(given[0], given[1], given[2])
    return [0]


def height(harbour, given):
    return [0, stored_bits(UNIT, metres(harbour.sea, given[0]))]


def double(harbour, given):
    return [0, stored_bits(DOUBLE, metres(harbour.sea, given[0]))]


def whole_millimetres(harbour, m):
    return nearest_whole(millimetres(harbour.sea, m))


def mm(harbour, given):
    return [0, whole_millimetres(harbour, given[0]) % WHOLE_NUMBERS]


def floor(harbour, given):
    return [0, whole_below(millimetres(harbour.sea, given[0])) % WHOLE_NUMBERS]


def decimal(harbour, given):
    return [0] + packed(whole_millimetres(harbour, given[0]))


def text(harbour, given):
    signs = metres_text(whole_millimetres(harbour, given[0]))
    return [len(signs)] + [ord(sign) for sign in signs]


CALLS = {
    0: begin,
    1: mark,
    2: wave,
    3: surge,
    4: height,
    5: double,
    7: mm,
    8: floor,
    9: decimal,
    10: text,
}

# How many numbers stand behind a call's own; mark tells its own count.
COUNTS = {0: 1, 2: 4, 3: 3, 4: 1, 5: 1, 7: 1, 8: 1, 9: 1, 10: 1}

# The calls whose first number is a minute m: they share its refusal.
OF_A_MINUTE = (4, 5, 7, 8, 9, 10)


def answer_to(harbour, number, given):
    if number in OF_A_MINUTE and not is_minute(given[0]):
        return [OUT_OF_BOUNDS]
    return CALLS[number](harbour, given)


def answers(calls):
    harbour = Harbour()
    told = []
    at = 0
    while at < len(calls):
        number = calls[at]
        first = at + 1
        count = COUNTS.get(number, 0)
        if number == MARK:
            count = calls[first]
            first = first + 1
        answer = answer_to(harbour, number, calls[first:first + count])
        told.append(len(answer))
        told.extend(answer)
        at = first + count
    return told
