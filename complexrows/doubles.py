"""Finite doubles, told by their bits, and the four operations on them, each rounded once.

Sizes are counted in units. The unit is the least double above 0, 2 to the power of -1074,
so every finite double is a whole number of units and nothing is lost before the rounding.
"""

SIGN = 0x8000000000000000
INFINITY = 0x7FF0000000000000
FRACTION = 0x000FFFFFFFFFFFFF
LEADING_BIT = 0x0010000000000000
FRACTION_BITS = 52
SIGNIFICAND_BITS = 53
UNIT_BITS = 1074


# Also for a quotient by 0: no finite double is its result either.
class NoFiniteResult(ArithmeticError):
    pass


def is_finite(x):
    # Infinities and NaNs are those whose exponent bits are all set.
    return (x & INFINITY) != INFINITY


def units(x):
    exponent = (x & INFINITY) >> FRACTION_BITS
    fraction = x & FRACTION
    if exponent == 0:
        return fraction
    return (fraction + LEADING_BIT) << (exponent - 1)


def signed_units(x):
    if x & SIGN:
        return -units(x)
    return units(x)


# The double nearest to top by bottom units, of two as near the even one.
# Top is not negative, bottom is above 0.
def nearest(top, bottom):
    shift = max(0, (top // bottom).bit_length() - SIGNIFICAND_BITS)
    step = bottom << shift
    steps = top // step
    twice_rest = 2 * (top % step)
    if twice_rest > step or (twice_rest == step and steps % 2 == 1):
        steps = steps + 1
    # Added, not joined: the leading bit, and a carry from the rounding, belong to the exponent.
    bits = (shift << FRACTION_BITS) + steps
    if bits >= INFINITY:
        raise NoFiniteResult()
    return bits


def add(x, y):
    total = signed_units(x) + signed_units(y)
    if total == 0:
        # Of sums that are 0 only that of two negative zeros is negative.
        return x & y & SIGN
    if total < 0:
        return SIGN | nearest(-total, 1)
    return nearest(total, 1)


# The sign alone is turned, also a zero's.
def negative(x):
    return x ^ SIGN


def subtract(x, y):
    return add(x, negative(y))


def multiply(x, y):
    sign = (x ^ y) & SIGN
    return sign | nearest(units(x) * units(y), 1 << UNIT_BITS)


def divide(x, y):
    divisor = units(y)
    if divisor == 0:
        raise NoFiniteResult()
    sign = (x ^ y) & SIGN
    return sign | nearest(units(x) << UNIT_BITS, divisor)
