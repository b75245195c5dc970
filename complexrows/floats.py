"""Finite floats, told by their bits, made of doubles."""

from complexrows.doubles import SIGN, UNIT_BITS, units
from complexrows.rounding import nearest

FLOAT_SIGN = 0x80000000
FLOAT_INFINITY = 0x7F800000
FLOAT_FRACTION_BITS = 23
# The least float above 0 is 2 to the power of -149.
FLOAT_UNIT_BITS = 149


def narrowed(x):
    size = nearest(units(x), 1 << (UNIT_BITS - FLOAT_UNIT_BITS), FLOAT_FRACTION_BITS, FLOAT_INFINITY)
    if x & SIGN:
        return FLOAT_SIGN | size
    return size
