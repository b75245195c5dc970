import unittest

from complexrows.rows import quotient
from tests.helper import GREATEST, LEAST, MINUS_ZERO, PLUS_ZERO, bits, row

ONE = bits(1.0)


class QuotientTest(unittest.TestCase):
    def test_ordinary_rows(self):
        self.assertEqual(quotient(row(-5, 10), row(3, 4)), [0] + row(1, 2))
        self.assertEqual(
            quotient(row(1, 0, 3, -4, 6, 9), row(0, 2, 1, 1, -3, 0)),
            [0] + row(0, -0.5, -0.5, -3.5, -2, -3),
        )

    def test_bits(self):
        self.assertEqual(
            quotient([0xC014000000000000, 0x4024000000000000], [0x4008000000000000, 0x4010000000000000]),
            [0, 0x3FF0000000000000, 0x4000000000000000],
        )

    def test_thirds(self):
        # m is 9, so 3 by 9, not 1 by 3.
        self.assertEqual(quotient(row(1, 2), row(3, 0)), [0, 0x3FD5555555555555, 0x3FE5555555555555])

    def test_steps_are_rounded_by_themselves(self):
        # Rounded once at the end it would be the double nearest to 0.3 by 0.1.
        top, m = 0.3 * 0.1, 0.1 * 0.1
        self.assertNotEqual(top / m, 0.3 / 0.1)
        self.assertEqual(quotient(row(0.3, 0), row(0.1, 0)), [0] + row(top / m, 0))

    def test_products_are_rounded_ahead_of_sums(self):
        # A fused step would leave what the rounding of x times x dropped.
        x = 1 + 2 ** -30
        m = 2 + 2 ** -28
        self.assertEqual(quotient(row(x, x), row(x, x)), [0] + row(1, 0))
        self.assertEqual(quotient(row(x, -x), row(x, x)), [0] + row(0, -1))
        self.assertEqual(quotient(row(m, 0), row(x, x)), [0] + row(x, -x))

    def test_sums_and_differences_tie_to_even(self):
        big = 2 ** 53
        self.assertEqual(quotient(row(big, 1), row(1, 1)), [0] + row(big / 2, (1 - big) / 2))
        self.assertEqual(quotient(row(big, 3), row(1, 1)), [0] + row((big + 4) / 2, (3 - big) / 2))
        self.assertEqual(quotient(row(big, 1), row(1, -1)), [0] + row((big - 1) / 2, big / 2))
        self.assertEqual(quotient(row(big, 3), row(1, -1)), [0] + row((big - 3) / 2, (big + 4) / 2))

    def test_sum_of_squares_ties_to_even(self):
        # m is r r and 1, half a last place, which goes; kept, it would show in both parts.
        r = 3 * 2 ** 25
        self.assertEqual(quotient(row(r * r, 0), row(r, 1)), [0] + row(r, -1))

    def test_division_rounds_subnormals_to_even(self):
        # m is 4: the halves of 1 and 3 least doubles are as near to two.
        self.assertEqual(quotient([1, 3], row(2, 0)), [0, PLUS_ZERO, 2])
        self.assertEqual(quotient([5, 7 | MINUS_ZERO], row(2, 0)), [0, 2, 4 | MINUS_ZERO])

    def test_zero_signs(self):
        plus, minus = PLUS_ZERO, MINUS_ZERO
        self.assertEqual(quotient([plus, plus], row(1, 0)), [0, plus, plus])
        self.assertEqual(quotient([minus, plus], row(1, 0)), [0, plus, plus])
        self.assertEqual(quotient([minus, minus], row(1, 0)), [0, minus, plus])
        self.assertEqual(quotient([plus, minus], [ONE, plus]), [0, plus, minus])
        self.assertEqual(quotient([minus, plus], [ONE, minus]), [0, minus, plus])
        self.assertEqual(quotient(row(1, 1), row(1, 1)), [0, ONE, plus])
        self.assertEqual(quotient(row(-1, 0), row(0, 1)), [0, plus, ONE])
        self.assertEqual(quotient(row(-1, 0), [plus, minus | ONE]), [0, minus, minus | ONE])

    def test_results_that_become_subnormal_or_zero(self):
        self.assertEqual(quotient([0x0010000000000000, LEAST], row(2, 0)), [0, 0x0008000000000000, PLUS_ZERO])
        self.assertEqual(quotient([LEAST | MINUS_ZERO, 0], row(2, 0)), [0, MINUS_ZERO, PLUS_ZERO])
        self.assertEqual(quotient([LEAST, 0], row(2 ** 300, 0)), [0, PLUS_ZERO, PLUS_ZERO])

    def test_greatest_finite_parts(self):
        self.assertEqual(quotient([GREATEST, GREATEST | MINUS_ZERO], row(1, 0)), [0, GREATEST, GREATEST | MINUS_ZERO])
        self.assertEqual(quotient([GREATEST, 0], row(0.5, 0)), [-3])
        self.assertEqual(quotient([GREATEST, 0], row(2, 0)), [-3])
        self.assertEqual(quotient(row(1, 0), [GREATEST, 0]), [-3])

    def test_divisor_zero(self):
        for r in (PLUS_ZERO, MINUS_ZERO):
            for s in (PLUS_ZERO, MINUS_ZERO):
                self.assertEqual(quotient(row(1, 2), [r, s]), [-3])
                self.assertEqual(quotient(row(0, 0), [r, s]), [-3])

    def test_sum_of_squares_that_becomes_zero(self):
        self.assertEqual(quotient(row(1, 2), row(2 ** -538, 0)), [-3])
        self.assertEqual(quotient(row(1, 2), row(0, 2 ** -538)), [-3])
        self.assertEqual(quotient(row(1, 2), row(2 ** -538, -2 ** -538)), [-3])
        self.assertEqual(quotient(row(1, 2), [LEAST, 0]), [-3])
        self.assertEqual(quotient(row(0, 0), [LEAST, LEAST]), [-3])

    def test_sum_of_squares_that_stays_just_above_zero(self):
        self.assertEqual(quotient(row(2 ** -537, 0), row(2 ** -537, 0)), [0] + row(1, 0))
        # Three quarters of the least double are rounded to it, so that m is 2 of it.
        x = 1.75 * 2.0 ** -538
        self.assertEqual(quotient(row(x, 0), row(x, x)), [0] + row(0.5, -0.5))

    def test_each_operation_that_overflows(self):
        huge = 1e200
        # Only m overflows: what is divided by it would be 0.
        self.assertEqual(quotient(row(1, 0), row(huge, 0)), [-3])
        self.assertEqual(quotient(row(1, 0), row(0, huge)), [-3])
        self.assertEqual(quotient(row(0, 0), row(-huge, 0)), [-3])
        square = 1.25 * 2 ** 511
        self.assertEqual(quotient(row(0, 0), row(square, 0)), [0] + row(0, 0))
        self.assertEqual(quotient(row(0, 0), row(square * 1.5, 0)), [0] + row(0, 0))
        self.assertEqual(quotient(row(0, 0), row(square * 1.5, square)), [-3])
        # p r, q s, q r, p s, with an m that is finite.
        top = 1e300
        self.assertEqual(quotient(row(top, 0), row(1e100, 0)), [-3])
        self.assertEqual(quotient(row(0, top), row(0, 1e100)), [-3])
        self.assertEqual(quotient(row(0, top), row(1e100, 0)), [-3])
        self.assertEqual(quotient(row(top, 0), row(0, 1e100)), [-3])
        # The sum, then the difference.
        self.assertEqual(quotient([GREATEST, GREATEST], row(1, 1)), [-3])
        self.assertEqual(quotient([GREATEST, GREATEST], row(1, -1)), [-3])
        # The divisions, of the real part alone and of the imaginary one alone.
        self.assertEqual(quotient(row(1e200, 0), row(1e-150, 0)), [-3])
        self.assertEqual(quotient(row(0, 1e200), row(1e-150, 0)), [-3])
