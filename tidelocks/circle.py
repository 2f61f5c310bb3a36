"""Cosine and sine of a part of a turn in 2^64ths, in the unit."""

from tidelocks.kinds import PLACES, POWER, UNIT, WHOLE, halved, multiply, opposite

# C10 down to C0 and S10 down to S0, the order in which a series takes them, without their signs: (whole, power).
COSINE_TERMS = (
    (0xF7B71846B68E1C74, -132),
    (0x95062C8D7C18A243, -122),
    (0x9063161796BFA54C, -113),
    (0xDB7127A25894796E, -105),
    (0xFCE9C51BB1E6146F, -97),
    (0xD368F95102545D4D, -89),
    (0xF0FA83448DD5D7A3, -82),
    (0xAAE9E3F1E5FFCFE3, -75),
    (0x81E0F840DAD61D9B, -69),
    (0x9DE9E64DF22EF2D2, -65),
    (0x8000000000000000, -63),
)
SINE_TERMS = (
    (0x943B8106A9677C6C, -136),
    (0xC5202108FCAA382E, -127),
    (0xD5761957C99AC950, -118),
    (0xB7D6DCF8AABA1C8B, -109),
    (0xF47A1A680C6B1994, -101),
    (0xF183A7EF4438FB12, -93),
    (0xA83C1A43F73C0DC8, -85),
    (0x9969667315EC2DF3, -78),
    (0xA335E33BAD570E92, -72),
    (0xA55DE7312DF295F5, -67),
    (0xC90FDAA22168C235, -64),
)

EIGHTH = 0x2000000000000000
QUARTER = 0x4000000000000000
TURN = 0x10000000000000000


def series(terms, u):
    """The terms by the powers of u, each product and each sum rounded by itself.

    Their signs take turns, and a product is below a third of the term that it meets: so each sum has its term's
    sign, and is a difference of two worths. As nearly all of a height's work is done here, no number is made of a
    step: only its places and their power go on.
    """
    if u[WHOLE] == 0:
        return (0, terms[-1][0], terms[-1][1])
    places = UNIT[PLACES]
    spare = places - u[WHOLE].bit_length()
    factor = u[WHOLE] << spare
    factor_power = u[POWER] - spare
    whole = terms[0][0]
    power = terms[0][1]
    for term in terms[1:]:
        product = whole * factor
        over = product.bit_length() - places
        power = power + factor_power + over
        rest = (term[0] << (term[1] - power)) - halved(product, over)
        over = rest.bit_length() - places
        whole = halved(rest, over)
        power = power + over
    return (0, whole, power)


def within_eighth(part):
    """How far the part is from the nearest whole quarter, by the eighth of a turn."""
    rest = part % EIGHTH
    if part // EIGHTH % 2 == 1:
        rest = EIGHTH - rest
    return (0, rest, -61)


def cosine(part):
    eighth = part // EIGHTH
    x = within_eighth(part)
    u = multiply(UNIT, x, x)
    if eighth in (1, 2, 5, 6):
        worth = multiply(UNIT, x, series(SINE_TERMS, u))
    else:
        worth = series(COSINE_TERMS, u)
    return opposite(worth) if eighth in (2, 3, 4, 5) else worth


def sine(part):
    # A quarter back is two eighths back: the document's two columns agree there, signs too.
    return cosine((part - QUARTER) % TURN)
