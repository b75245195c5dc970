"""Finite floats, told by their bits, made of doubles, and doubles made of them."""

from complexrows.doubles import SIGN, UNIT_BITS, rounded, units
from complexrows.rounding import has_finite_bits, nearest, units_of

FLOAT_SIGN = 0x80000000
FLOAT_INFINITY = 0x7F800000
FLOAT_FRACTION_BITS = 23
# The least float above 0 is 2 to the power of -149.
FLOAT_UNIT_BITS = 149


def is_finite_float(x):
    return has_finite_bits(x, FLOAT_INFINITY)


def narrowed(x):
    float_unit = 1 << (UNIT_BITS - FLOAT_UNIT_BITS)
    size = nearest(units(x), float_unit, FLOAT_FRACTION_BITS, FLOAT_INFINITY)
    if x & SIGN:
        return FLOAT_SIGN | size
    return size


# Every float is a double too, so that the rounding loses nothing.
def widened(x):
    size = units_of(x, FLOAT_FRACTION_BITS, FLOAT_INFINITY)
    bits = rounded(size << (UNIT_BITS - FLOAT_UNIT_BITS), 1)
    if x & FLOAT_SIGN:
        return SIGN | bits
    return bits
