"""Numbers of the unit, doubles and singles, each sum, product, quotient and root rounded by itself.

A number is a tuple (sign, whole, power): whole times 2^power, with the sign - if sign is 1.
No height comes near a kind's largest number, so there is no infinite one here.
"""

SIGN = 0
WHOLE = 1
POWER = 2

# A kind: how many places, the least power, how many places are stored, where the sign is stored.
UNIT = (64, -16445, 64, 79)
DOUBLE = (53, -1074, 52, 63)
SINGLE = (24, -149, 23, 31)
PLACES = 0
LEAST = 1
STORED = 2
SIGN_PLACE = 3

HIDDEN_OF_SINGLE = 0x800000


def halved(whole, times):
    """whole / 2^times, the nearest whole number, of two as near the even one."""
    kept = whole >> times
    rest = whole - (kept << times)
    half = 1 << (times - 1)
    if rest > half or (rest == half and kept & 1):
        return kept + 1
    return kept


def rounded(kind, sign, whole, power):
    over = whole.bit_length() - kind[PLACES]
    if over < kind[LEAST] - power:
        over = kind[LEAST] - power
    if over <= 0:
        return (sign, whole, power)
    return (sign, halved(whole, over), power + over)


def turned(kind, x):
    return rounded(kind, x[SIGN], x[WHOLE], x[POWER])


def of_whole(value):
    return (1 if value < 0 else 0, abs(value), 0)


def of_single(bits):
    """The number that a finite single's bits tell."""
    sign = bits >> SINGLE[SIGN_PLACE]
    field = (bits >> SINGLE[STORED]) & 255
    whole = bits & (HIDDEN_OF_SINGLE - 1)
    if field == 0:
        return (sign, whole, SINGLE[LEAST])
    return (sign, whole + HIDDEN_OF_SINGLE, SINGLE[LEAST] + field - 1)


def opposite(x):
    return (1 - x[SIGN], x[WHOLE], x[POWER])


def without_sign(x):
    return (0, x[WHOLE], x[POWER])


def signed(x):
    return -x[WHOLE] if x[SIGN] else x[WHOLE]


def is_below(x, y):
    """By worth: of +0 and -0 neither is below the other."""
    power = min(x[POWER], y[POWER])
    return (signed(x) << (x[POWER] - power)) < (signed(y) << (y[POWER] - power))


def add(kind, x, y):
    power = min(x[POWER], y[POWER])
    total = (signed(x) << (x[POWER] - power)) + (signed(y) << (y[POWER] - power))
    if total == 0:
        return (x[SIGN] & y[SIGN], 0, power)
    return rounded(kind, 1 if total < 0 else 0, abs(total), power)


def subtract(kind, x, y):
    return add(kind, x, opposite(y))


def multiply(kind, x, y):
    return rounded(kind, x[SIGN] ^ y[SIGN], x[WHOLE] * y[WHOLE], x[POWER] + y[POWER])


def divide(kind, x, y):
    """x / y; y is never 0 here."""
    more = max(0, kind[PLACES] + 2 + y[WHOLE].bit_length() - x[WHOLE].bit_length())
    parts = divmod(x[WHOLE] << more, y[WHOLE])
    # The last place only says that something is left: with it the rounding can't take it for a half.
    whole = parts[0] * 2 + (1 if parts[1] else 0)
    return rounded(kind, x[SIGN] ^ y[SIGN], whole, x[POWER] - y[POWER] - more - 1)


def whole_root(value):
    """The greatest whole number whose square isn't above value."""
    found = 1 << ((value.bit_length() + 1) // 2)
    while found * found > value:
        found = (found + value // found) // 2
    return found


def root(kind, x):
    """The root of x, which is 0 or above it."""
    more = max(0, 2 * (kind[PLACES] + 2) - x[WHOLE].bit_length())
    # The power is to be even, for half of it is the root's.
    more = more + (x[POWER] - more) % 2
    square = x[WHOLE] << more
    found = whole_root(square)
    # As in a quotient, the last place says that something is left.
    whole = found * 2 + (1 if found * found < square else 0)
    return rounded(kind, 0, whole, (x[POWER] - more) // 2 - 1)


def scaled(kind, x, power):
    """x times 2^power, rounded but once."""
    return rounded(kind, x[SIGN], x[WHOLE], x[POWER] + power)


def nearest_whole(x):
    if x[POWER] >= 0:
        return signed(x) << x[POWER]
    value = halved(x[WHOLE], -x[POWER])
    return -value if x[SIGN] else value


def whole_below(x):
    """The greatest whole number not above x."""
    if x[POWER] >= 0:
        return signed(x) << x[POWER]
    return signed(x) >> -x[POWER]


def stored_bits(kind, x):
    """x turned into the kind, as the kind is stored."""
    near = turned(kind, x)
    sign = near[SIGN] << kind[SIGN_PLACE]
    spare = min(kind[PLACES] - near[WHOLE].bit_length(), near[POWER] - kind[LEAST])
    # Rounding up may leave 2^places, where spare is -1; so one place more is made, then taken.
    whole = (near[WHOLE] << (spare + 1)) >> 1
    if whole.bit_length() < kind[PLACES]:
        return sign + whole
    field = near[POWER] - spare - kind[LEAST] + 1
    return sign + (field << kind[STORED]) + (whole & ((1 << kind[STORED]) - 1))
