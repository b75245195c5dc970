"""What doubles and floats share: from bits to units, and from units, rounded, to bits.

The unit is the least number above 0, so every finite number is a whole number of units. The
infinity is told by its bits, which are those of the exponent.
"""


# Also for a quotient by 0: no finite double is its result either.
class NoFiniteResult(ArithmeticError):
    pass


def has_finite_bits(bits, infinity):
    # Infinities and NaNs are those whose exponent bits are all set.
    return (bits & infinity) != infinity


# Without the sign.
def units_of(bits, fraction_bits, infinity):
    leading_bit = 1 << fraction_bits
    exponent = (bits & infinity) >> fraction_bits
    fraction = bits & (leading_bit - 1)
    if exponent == 0:
        return fraction
    return (fraction + leading_bit) << (exponent - 1)


# The bits of the number nearest to top by bottom units, of two as near the even one.
# Top is not negative, bottom is above 0.
def nearest(top, bottom, fraction_bits, infinity):
    # Beside the bits of the fraction a number has a leading one.
    shift = max(0, (top // bottom).bit_length() - fraction_bits - 1)
    step = bottom << shift
    steps = top // step
    twice_rest = 2 * (top % step)
    if twice_rest > step or (twice_rest == step and steps % 2 == 1):
        steps = steps + 1
    # Added, not joined: the leading bit, and a carry from the rounding, belong to the exponent.
    bits = (shift << fraction_bits) + steps
    if bits >= infinity:
        raise NoFiniteResult()
    return bits
