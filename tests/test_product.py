import unittest

from complexrows.rows import product
from tests.helper import GREATEST, LEAST, MINUS_ZERO, PLUS_ZERO, bits, row

ONE = bits(1.0)


class ProductTest(unittest.TestCase):
    def test_ordinary_rows(self):
        self.assertEqual(product(row(1, 2), row(3, 4)), [0] + row(-5, 10))
        self.assertEqual(
            product(row(0, 1, 1.5, -2, 3, 0), row(0, 1, 4, 0.5, -7, 2)),
            [0] + row(-1, 0, 7, -7.25, -21, 6),
        )

    def test_bits(self):
        self.assertEqual(
            product([0x3FF0000000000000, 0x4000000000000000], [0x4008000000000000, 0x4010000000000000]),
            [0, 0xC014000000000000, 0x4024000000000000],
        )

    def test_products_are_rounded_ahead_of_the_difference(self):
        # A fused step would leave what the rounding of x times x dropped, 2 to the power of -60.
        x = 1 + 2 ** -30
        self.assertEqual(product(row(x, x), row(x, x)), [0] + row(0, 2 + 2 ** -28))
        self.assertEqual(product(row(x, x), row(x, -x)), [0] + row(2 + 2 ** -28, 0))

    def test_product_of_parts_ties_to_even(self):
        # 1.5 and 1.5 last places, 1.5 and 4.5 last places.
        self.assertEqual(product([ONE + 1, 0], row(1.5, 0)), [0, 0x3FF8000000000002, 0])
        self.assertEqual(product([ONE + 3, 0], row(1.5, 0)), [0, 0x3FF8000000000004, 0])

    def test_difference_and_sum_tie_to_even(self):
        big = float(2 ** 53)
        self.assertEqual(product(row(big, 1), row(1, -1)), [0] + row(2 ** 53, 1 - 2 ** 53))
        self.assertEqual(product(row(big, 3), row(1, -1)), [0] + row(2 ** 53 + 4, 3 - 2 ** 53))
        self.assertEqual(product(row(big, 1), row(1, 1)), [0] + row(2 ** 53 - 1, 2 ** 53))
        self.assertEqual(product(row(big, 3), row(1, 1)), [0] + row(2 ** 53 - 3, 2 ** 53 + 4))

    def test_just_above_a_tie_is_not_a_tie(self):
        # Beyond the tie by 2 to the power of -52 of a last place: rounded wider first, it would be one.
        self.assertEqual(product([ONE + 3, 0], [ONE + 750599937895083, 0]), [0, ONE + 750599937895087, 0])
        self.assertEqual(product([bits(2.0 ** 53), ONE + 1], row(1, 1)), [0] + row(2 ** 53 - 1, 2 ** 53 + 2))
        self.assertEqual(product([bits(2.0 ** 53), ONE + 1], row(1, -1)), [0] + row(2 ** 53 + 2, 1 - 2 ** 53))

    def test_zero_signs(self):
        plus, minus = PLUS_ZERO, MINUS_ZERO
        self.assertEqual(product([plus, plus], [plus, plus]), [0, plus, plus])
        self.assertEqual(product([minus, plus], [plus, plus]), [0, minus, plus])
        self.assertEqual(product([minus, minus], [plus, plus]), [0, plus, minus])
        self.assertEqual(product([minus, plus], [plus, minus]), [0, plus, plus])
        self.assertEqual(product([plus, minus], [plus, minus]), [0, plus, minus])
        self.assertEqual(product([ONE, ONE], [ONE, ONE]), [0, plus, bits(2.0)])
        self.assertEqual(product(row(-1, 0), [plus, plus]), [0, minus, plus])
        self.assertEqual(product(row(-1, 1), [plus, plus]), [0, minus, plus])
        self.assertEqual(product(row(-1, -1), [plus, plus]), [0, plus, minus])

    def test_subnormal_parts(self):
        self.assertEqual(product([LEAST, 5], [ONE, PLUS_ZERO]), [0, LEAST, 5])
        self.assertEqual(product([3, 0], row(1.5, 0)), [0, 4, 0])
        self.assertEqual(product([0x000FFFFFFFFFFFFF, 0], row(2, 0)), [0, 0x001FFFFFFFFFFFFE, 0])
        self.assertEqual(product([0x0010000000000000, 0], row(0.5, 0)), [0, 0x0008000000000000, 0])
        self.assertEqual(product([0x001FFFFFFFFFFFFF, 0], row(0.5, 0)), [0, 0x0010000000000000, 0])

    def test_results_that_become_zero(self):
        self.assertEqual(product([LEAST, 0], row(0.5, 0)), [0, PLUS_ZERO, PLUS_ZERO])
        self.assertEqual(product([LEAST, 0], [bits(0.5) + 1, 0]), [0, LEAST, PLUS_ZERO])
        self.assertEqual(product([LEAST | MINUS_ZERO, 0], [LEAST, 0]), [0, MINUS_ZERO, PLUS_ZERO])

    def test_greatest_finite_parts(self):
        least_below_zero = GREATEST | MINUS_ZERO
        self.assertEqual(product([GREATEST, 0], row(1, 0)), [0, GREATEST, 0])
        self.assertEqual(product([GREATEST, GREATEST], row(0, 1)), [0, least_below_zero, GREATEST])
        self.assertEqual(product([GREATEST, 0], [ONE + 1, 0]), [-3])
        self.assertEqual(product([GREATEST, 0], [GREATEST, 0]), [-3])

    def test_greatest_and_nearly_half_a_last_place_more(self):
        half = bits(2.0 ** 970)
        self.assertEqual(product([GREATEST, half - 1], row(1, -1))[:2], [0, GREATEST])
        self.assertEqual(product([GREATEST, half], row(1, -1)), [-3])
        self.assertEqual(product([GREATEST, half - 1], row(1, 1))[2:], [GREATEST])
        self.assertEqual(product([GREATEST, half], row(1, 1)), [-3])

    def test_each_operation_that_overflows(self):
        huge = 1e200
        self.assertEqual(product(row(huge, 0), row(huge, 0)), [-3])
        self.assertEqual(product(row(0, huge), row(0, huge)), [-3])
        self.assertEqual(product(row(huge, 0), row(0, huge)), [-3])
        self.assertEqual(product(row(0, huge), row(huge, 0)), [-3])
        self.assertEqual(product([GREATEST, GREATEST], row(1, -1)), [-3])
        self.assertEqual(product([GREATEST, GREATEST], row(1, 1)), [-3])
        self.assertEqual(product(row(-huge, 0), row(huge, 0)), [-3])
