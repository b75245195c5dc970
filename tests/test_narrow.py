import unittest

from complexrows.rows import narrow
from tests import helper
from tests.helper import (
    FLOAT_MINUS_ZERO, GREATEST, GREATEST_FLOAT, LEAST, MINUS_ZERO, NOT_FINITE, PLUS_ZERO, bits, row,
)

FLOAT_ONE = 0x3F800000


def expected_narrow(a):
    """As the machine makes floats of its doubles."""
    try:
        return [0] + [helper.float_bits(helper.double(part)) for part in a]
    except OverflowError:
        return [-3]


class NarrowTest(unittest.TestCase):
    def check(self, a):
        answer = narrow(a)
        self.assertTrue(answer == expected_narrow(a), ([hex(part) for part in a], answer))

    def check_real(self, x, float_part):
        """Of either sign, and in either part."""
        part = bits(x)
        below = part | MINUS_ZERO
        self.assertEqual(narrow([part, PLUS_ZERO]), [0, float_part, 0])
        self.assertEqual(narrow([PLUS_ZERO, part]), [0, 0, float_part])
        self.assertEqual(narrow([below, PLUS_ZERO]), [0, float_part | FLOAT_MINUS_ZERO, 0])
        self.assertEqual(narrow([PLUS_ZERO, below]), [0, 0, float_part | FLOAT_MINUS_ZERO])

    def test_ordinary_rows(self):
        self.assertEqual(narrow(row(1, 2, -0.5, 0.1)), [0, 0x3F800000, 0x40000000, 0xBF000000, 0x3DCCCCCD])
        self.assertEqual(narrow(row(3.14159265358979, -1e10)), [0, 0x40490FDB, 0xD01502F9])

    def test_bits(self):
        self.assertEqual(narrow([0x3FF0000000000000, 0xC000000000000000]), [0, 0x3F800000, 0xC0000000])

    def test_empty_row(self):
        self.assertEqual(narrow([]), [0])

    def test_ties_to_even(self):
        last = 2.0 ** -23
        self.check_real(1 + last / 2, FLOAT_ONE)
        self.check_real(1 + last * 3 / 2, FLOAT_ONE + 2)
        self.check_real(1 + last * 5 / 2, FLOAT_ONE + 2)
        self.check_real(2 - last / 2, 0x40000000)
        self.check_real(2 - last * 3 / 2, 0x3FFFFFFE)

    def test_next_to_ties(self):
        tie = bits(1 + 2.0 ** -24)
        self.assertEqual(narrow([tie - 1, tie + 1]), [0, FLOAT_ONE, FLOAT_ONE + 1])
        tie = bits(1 + 3 * 2.0 ** -24)
        self.assertEqual(narrow([tie - 1, tie + 1]), [0, FLOAT_ONE + 1, FLOAT_ONE + 2])

    def test_zeros_keep_their_signs(self):
        self.assertEqual(
            narrow([PLUS_ZERO, MINUS_ZERO, MINUS_ZERO, PLUS_ZERO]), [0, 0, FLOAT_MINUS_ZERO, FLOAT_MINUS_ZERO, 0]
        )

    def test_subnormal_floats(self):
        unit = 2.0 ** -149
        self.check_real(2.0 ** -126, 0x00800000)
        self.check_real(2.0 ** -127, 0x00400000)
        self.check_real(2.0 ** -126 - unit, 0x007FFFFF)
        # Between the greatest subnormal and the least normal one, a tie: the normal one is even.
        self.check_real(2.0 ** -126 - unit / 2, 0x00800000)
        self.check_real(2.0 ** -126 - unit * 3 / 2, 0x007FFFFE)
        self.check_real(5 * unit, 5)
        self.check_real(5.5 * unit, 6)
        self.check_real(6.5 * unit, 6)
        self.check_real(6.5000001 * unit, 7)

    def test_about_the_least_float(self):
        unit = 2.0 ** -149
        self.check_real(unit, 1)
        self.check_real(unit * 3 / 2, 2)
        self.check_real(unit * 1.4999999, 1)
        self.check_real(unit / 2, 0)
        half = bits(unit / 2)
        self.assertEqual(narrow([half + 1, half - 1]), [0, 1, 0])
        self.assertEqual(
            narrow([(half + 1) | MINUS_ZERO, (half - 1) | MINUS_ZERO]), [0, FLOAT_MINUS_ZERO | 1, FLOAT_MINUS_ZERO]
        )

    def test_subnormal_doubles_become_zeros(self):
        self.assertEqual(narrow([LEAST, LEAST | MINUS_ZERO]), [0, 0, FLOAT_MINUS_ZERO])
        self.assertEqual(narrow([0x000FFFFFFFFFFFFF, 0x0010000000000000]), [0, 0, 0])

    def test_greatest_float_and_what_is_nearest_to_it_from_above(self):
        greatest = 2.0 ** 128 - 2.0 ** 104
        self.check_real(greatest, GREATEST_FLOAT)
        limit = bits(2.0 ** 128 - 2.0 ** 103)
        self.check_real(helper.double(limit - 1), GREATEST_FLOAT)
        self.check_real(helper.double(bits(greatest) + 1), GREATEST_FLOAT)

    def test_nearest_float_that_is_not_finite(self):
        limit = bits(2.0 ** 128 - 2.0 ** 103)
        for size in (limit, limit + 1, bits(2.0 ** 128), bits(1e39), bits(1e300), GREATEST):
            for part in (size, size | MINUS_ZERO):
                self.assertEqual(narrow([part, 0]), [-3])
                self.assertEqual(narrow([0, part]), [-3])
                self.assertEqual(narrow(row(1, 2) + [0, part]), [-3])
                self.assertEqual(narrow([part, 0] + row(1, 2)), [-3])

    def test_not_finite_part(self):
        for part in NOT_FINITE:
            self.assertEqual(narrow([part] + row(1, 2, 3)), [-2])
            self.assertEqual(narrow(row(1, 2, 3) + [part]), [-2])
            self.assertEqual(narrow([part] + row(1, 2, 1e300)), [-2])
            self.assertEqual(narrow(row(1e300, 2, 3) + [part]), [-2])

    def test_sizes_where_something_changes(self):
        for p in helper.either_sign(helper.SIZES):
            self.check([p, PLUS_ZERO])
            self.check([MINUS_ZERO, p])

    def test_about_every_exponent_of_floats(self):
        # 29 bits more than a float's are the double's: a half of a last place is 2 to the power of 28.
        half = 1 << 28
        for exponent in range(1023 - 155, 1023 + 130):
            for fraction in (0, half - 1, half, half + 1, 3 * half, 0x000FFFFFE0000000, 0x000FFFFFF0000000):
                self.check([exponent << 52 | fraction, PLUS_ZERO])
            for steps in range(1, 8):
                # About ties of subnormal floats, whose fractions are shorter.
                tie = (0x0008000000000000 >> steps) * 3
                self.check([exponent << 52 | tie, exponent << 52 | tie + 1])
                self.check([exponent << 52 | tie - 1, MINUS_ZERO | exponent << 52 | tie])

    def test_parts_of_many_sizes(self):
        parts = helper.Parts(91)
        for i in range(2000):
            self.check(parts.row(2, 1023 - 155, 1023 + 127))
            self.check(parts.row(2, 0, 2046))

    def test_every_short_subnormal_tie(self):
        # All quarters of the first units.
        for quarters in range(70):
            x = quarters * 2.0 ** -151
            self.check(row(x, -x))

    def test_long_rows(self):
        parts = helper.Parts(92)
        for length in (1, 2, 31, 63, 64):
            self.check(parts.row(2 * length, 900, 1100))

    def test_longest_row(self):
        self.assertTrue(narrow(row(1, -1) * 4096) == [0] + [FLOAT_ONE, FLOAT_ONE | FLOAT_MINUS_ZERO] * 4096)
        self.assertTrue(narrow(row(1, -1) * 4097) == [-2])
        self.assertTrue(narrow(row(1e300, -1) * 4097) == [-2])
