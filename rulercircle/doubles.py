"""The double (IEEE 754 binary64) that stands for a number, by its 64 bits.

The bits of +0 and of the doubles above it, as whole numbers, rise as the doubles do:
the next double has the next number. Behind the greatest stands the infinite one, as if
it were 2 to the 1024: it's taken where a number is rounded to beyond the greatest.
"""

from rulercircle.things import Number
from rulercircle.tower import minus, scaled

NEAREST = 0
NOT_ABOVE = 1
NOT_BELOW = 2
MOST_MODE = 3

HIDDEN = 0x0010000000000000
INFINITE = 0x7FF0000000000000
MINUS = 0x8000000000000000

# Doubles are counted in units of 2 to the -1075, half the least of them, so that the
# middle of two neighbours is a whole number of units too.
UNIT = 1075


def units_of(bits):
    fraction = bits % HIDDEN
    exponent = bits // HIDDEN
    if exponent == 0:
        return fraction << 1
    return (HIDDEN + fraction) << exponent


def compared(tower, size, units):
    """-1, 0, 1: size, a number above 0, is less than, as much as, more than so many units."""
    return tower.sign(minus(scaled(size.top, 1 << UNIT), scaled(size.bottom, units)))


def bits_below(tower, size):
    """The greatest finite double that isn't above size."""
    low = 0
    high = INFINITE
    while high - low > 1:
        middle = (low + high) // 2
        if compared(tower, size, units_of(middle)) < 0:
            high = middle
        else:
            low = middle
    return low


def nearer_above(tower, size, bits):
    """Whether size, from the double bits on and below the next one, is rounded to that next one."""
    half = (units_of(bits) + units_of(bits + 1)) // 2
    side = compared(tower, size, half)
    return side > 0 or (side == 0 and bits % 2 == 1)


def bits_of(tower, number, mode):
    sign = tower.sign(number.top)
    if sign == 0:
        return 0
    size = Number(scaled(number.top, sign), number.bottom)
    bits = bits_below(tower, size)
    if mode == NEAREST:
        outwards = nearer_above(tower, size, bits)
    elif mode == (NOT_BELOW if sign > 0 else NOT_ABOVE):
        outwards = compared(tower, size, units_of(bits)) > 0
    else:
        outwards = False
    return bits + (1 if outwards else 0) + (0 if sign > 0 else MINUS)
