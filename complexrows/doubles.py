"""Finite doubles, told by their bits, and the four operations on them, each rounded once.

Sizes are counted in units. The unit is the least double above 0, 2 to the power of -1074,
so that nothing is lost before the rounding.
"""

from complexrows.rounding import NoFiniteResult, has_finite_bits, nearest, units_of

SIGN = 0x8000000000000000
INFINITY = 0x7FF0000000000000
FRACTION_BITS = 52
UNIT_BITS = 1074


def is_finite(x):
    return has_finite_bits(x, INFINITY)


def units(x):
    return units_of(x, FRACTION_BITS, INFINITY)


def signed_units(x):
    if x & SIGN:
        return -units(x)
    return units(x)


def rounded(top, bottom):
    return nearest(top, bottom, FRACTION_BITS, INFINITY)


def add(x, y):
    total = signed_units(x) + signed_units(y)
    if total == 0:
        # Of sums that are 0 only that of two negative zeros is negative.
        return x & y & SIGN
    if total < 0:
        return SIGN | rounded(-total, 1)
    return rounded(total, 1)


# The sign alone is turned, also a zero's.
def negative(x):
    return x ^ SIGN


def subtract(x, y):
    return add(x, negative(y))


def multiply(x, y):
    sign = (x ^ y) & SIGN
    return sign | rounded(units(x) * units(y), 1 << UNIT_BITS)


def divide(x, y):
    divisor = units(y)
    if divisor == 0:
        raise NoFiniteResult()
    sign = (x ^ y) & SIGN
    return sign | rounded(units(x) << UNIT_BITS, divisor)
