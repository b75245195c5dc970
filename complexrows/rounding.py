"""The rounding that doubles and floats share."""


# Also for a quotient by 0: no finite double is its result either.
class NoFiniteResult(ArithmeticError):
    pass


# The bits of the number nearest to top by bottom units, of two as near the even one. The unit is
# the least number above 0; infinity is told by its bits. Top is not negative, bottom is above 0.
def nearest(top, bottom, fraction_bits, infinity):
    # Beside the bits of the fraction a number has a leading one.
    shift = max(0, (top // bottom).bit_length() - fraction_bits - 1)
    step = bottom << shift
    steps = top // step
    twice_rest = 2 * (top % step)
    if twice_rest > step or (twice_rest == step and steps % 2 == 1):
        steps = steps + 1
    # Added, not joined: the leading bit, and a carry from the rounding, belong to the exponent.
    bits = (shift << fraction_bits) + steps
    if bits >= infinity:
        raise NoFiniteResult()
    return bits
