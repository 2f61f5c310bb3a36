"""Whole millimetres as packed decimals and as texts."""

PACKED = 9
MINUS = 128


def packed(value):
    """Ten bytes: two digits to a byte, the lowest byte first, then the sign's."""
    rest = abs(value)
    row = []
    while len(row) < PACKED:
        row.append(rest // 10 % 10 * 16 + rest % 10)
        rest = rest // 100
    row.append(MINUS if value < 0 else 0)
    return row


def is_packed(row):
    for byte in row[:PACKED]:
        if byte % 16 > 9 or byte // 16 > 9:
            return False
    return row[PACKED] in (0, MINUS)


def unpacked(row):
    """The whole number that ten bytes tell; 0 is 0 with either sign."""
    value = 0
    for byte in reversed(row[:PACKED]):
        value = value * 100 + byte // 16 * 10 + byte % 16
    return -value if row[PACKED] == MINUS else value


def metres_text(value):
    sign = "-" if value < 0 else "+"
    whole = str(abs(value) // 1000)
    rest = str(abs(value) % 1000).zfill(3)
    return f"{sign}{whole}.{rest}"
