import unittest

from complexrows.rows import value
from tests import helper
from tests.helper import GREATEST, LEAST, MINUS_ZERO, NOT_FINITE, PLUS_ZERO, bits, row

ONE = bits(1.0)


class ValueTest(unittest.TestCase):
    def check(self, x, c):
        answer = value(x, c)
        self.assertTrue(answer == helper.expected(helper.machine_value, x, c), (x, c, answer))

    def test_ordinary_polynomials(self):
        self.assertEqual(value(row(2, 0), row(1, 0, 3, 0)), [0] + row(7, 0))
        # 5 and 3x and 2 x x at x = 1 + i, where x x is 2i.
        self.assertEqual(value(row(1, 1), row(5, 0, 3, 0, 2, 0)), [0] + row(8, 7))
        # The cube of 1 + 2i, less 4i.
        self.assertEqual(value(row(1, 2), row(0, -4, 0, 0, 0, 0, 1, 0)), [0] + row(-11, -6))

    def test_bits(self):
        self.assertEqual(
            value([0x4000000000000000, 0], [0x3FF0000000000000, 0, 0x4008000000000000, 0x3FF0000000000000]),
            [0, 0x401C000000000000, 0x4000000000000000],
        )

    def test_one_term_is_its_value_whatever_x_is(self):
        points = [row(0, 0), row(1, 2), [GREATEST, GREATEST], [LEAST, LEAST], [MINUS_ZERO, MINUS_ZERO]]
        parts = helper.either_sign(helper.SIZES)
        for x in points:
            for p in parts:
                for q in (PLUS_ZERO, MINUS_ZERO, ONE, GREATEST):
                    self.assertEqual(value(x, [p, q]), [0, p, q])

    def test_last_term_is_of_the_greatest_power(self):
        self.assertEqual(value(row(10, 0), row(1, 0, 2, 0, 3, 0, 4, 0)), [0] + row(4321, 0))

    def test_goes_down_from_the_greatest_power(self):
        # Up from the lowest one, 0.3 by itself would be added to (0.2 x) and then to (0.1 x x).
        x, low, middle, high = 0.7, 0.3, 0.2, 0.1
        down = (high * x + middle) * x + low
        self.assertNotEqual(down, low + middle * x + high * (x * x))
        self.assertEqual(value(row(x, 0), row(low, 0, middle, 0, high, 0)), [0] + row(down, 0))

    def test_product_is_rounded_ahead_of_the_sum(self):
        # A fused step would leave what the rounding of x times x dropped.
        x = 1 + 2 ** -30
        self.assertEqual(value(row(x, 0), row(-(1 + 2 ** -29), 0, x, 0)), [0] + row(0, 0))

    def test_products_and_sums_tie_to_even(self):
        self.assertEqual(value(row(1.5, 0), [0, 0, ONE + 1, 0]), [0, 0x3FF8000000000002, 0])
        self.assertEqual(value(row(1.5, 0), [0, 0, ONE + 3, 0]), [0, 0x3FF8000000000004, 0])
        big = 2 ** 53
        self.assertEqual(value(row(1, 0), row(1, 3, big, big)), [0] + row(big, big + 4))
        self.assertEqual(value(row(1, 0), row(3, 1, big, big)), [0] + row(big + 4, big))
        self.assertEqual(value(row(1, 0), row(-big, 0, 1, 0, big, 0)), [0] + row(0, 0))

    def test_zero_signs(self):
        plus, minus = PLUS_ZERO, MINUS_ZERO
        self.assertEqual(value([plus, plus], [minus, minus, ONE, plus]), [0, plus, plus])
        # (-1 times 0) - (0 times 0) is -0, and stays so beside -0.
        self.assertEqual(value([plus, plus], [minus, minus, ONE | MINUS_ZERO, plus]), [0, minus, plus])
        self.assertEqual(value([plus, plus], [plus, minus, ONE | MINUS_ZERO, plus]), [0, plus, plus])
        self.assertEqual(value(row(1, 0), row(-2, -3, 2, 3)), [0, plus, plus])
        # (0 times -1) + (-0 times 1) is -0.
        self.assertEqual(value([ONE, ONE | MINUS_ZERO], [minus, minus, plus, minus]), [0, plus, minus])

    def test_zeros_and_ones_of_either_sign(self):
        parts = helper.either_sign([PLUS_ZERO, ONE])
        for p in parts:
            for q in parts:
                for r in parts:
                    for s in parts:
                        self.check([p, q], [MINUS_ZERO, MINUS_ZERO, r, s])
                        self.check([p, q], [MINUS_ZERO, PLUS_ZERO, r, s, s, r])

    def test_subnormal_parts(self):
        self.assertEqual(value(row(1, 0), [LEAST, 5, LEAST, 7]), [0, 2, 12])
        self.assertEqual(value(row(0.5, 0), [4, 0, LEAST, 3]), [0, 4, 2])
        self.assertEqual(value([LEAST, 0], row(0, 0, 1, 0)), [0, LEAST, PLUS_ZERO])
        self.assertEqual(value([LEAST, 0], row(0, 0, 0, 0, 1, 0)), [0, PLUS_ZERO, PLUS_ZERO])

    def test_greatest_parts(self):
        self.assertEqual(value(row(1, 0), [0, 0, GREATEST, GREATEST]), [0, GREATEST, GREATEST])
        half = bits(2.0 ** 970)
        self.assertEqual(value(row(1, 0), [half - 1, 0, GREATEST, 0]), [0, GREATEST, PLUS_ZERO])
        self.assertEqual(value(row(1, 0), [half, 0, GREATEST, 0]), [-3])

    def test_each_operation_that_overflows(self):
        huge = 1e200
        self.assertEqual(value(row(huge, 0), row(0, 0, huge, 0)), [-3])
        self.assertEqual(value(row(0, huge), row(0, 0, 0, huge)), [-3])
        self.assertEqual(value(row(huge, 0), row(0, 0, 0, huge)), [-3])
        self.assertEqual(value(row(0, huge), row(0, 0, huge, 0)), [-3])
        self.assertEqual(value(row(1, 1), [0, 0, GREATEST, GREATEST]), [-3])
        self.assertEqual(value(row(1, -1), [0, 0, GREATEST, GREATEST]), [-3])
        self.assertEqual(value(row(1, 0), [GREATEST, 0, GREATEST, 0]), [-3])
        self.assertEqual(value(row(1, 0), [0, GREATEST, 0, GREATEST]), [-3])

    def test_intermediate_overflow(self):
        back = GREATEST | MINUS_ZERO
        self.assertEqual(value(row(1, 0), [back, 0, GREATEST, 0, GREATEST, 0]), [-3])
        self.assertEqual(value(row(1, 0), [GREATEST, 0, back, 0, GREATEST, 0]), [0, GREATEST, PLUS_ZERO])
        # Times 0 it would be gone.
        self.assertEqual(value(row(1e200, 1e200), row(0, 0, 0, 0, 1e200, 1e200)), [-3])

    def test_not_finite_part_comes_ahead_of_overflow(self):
        for part in NOT_FINITE:
            self.assertEqual(value([part, 0], row(1, 2)), [-2])
            self.assertEqual(value([0, part], row(1, 2)), [-2])
            self.assertEqual(value(row(1, 2), [part, 0]), [-2])
            self.assertEqual(value(row(1, 2), [0, part]), [-2])
            self.assertEqual(value(row(1e200, 0), [part] + row(0, 1, 0, 1e200, 0)), [-2])
            self.assertEqual(value(row(1e200, 0), row(1, 0, 1e200, 0, 1) + [part]), [-2])
            self.assertEqual(value([part] + row(0), row(0, 0, 1e200, 0, 1e200, 0)), [-2])

    def test_parts_of_near_sizes(self):
        parts = helper.Parts(41)
        for i in range(400):
            self.check(parts.row(2, 1019, 1026), parts.row(2 + 2 * (i % 8), 1000, 1036))

    def test_parts_of_every_size(self):
        parts = helper.Parts(42)
        for i in range(1000):
            self.check(parts.row(2, 0, 2046), parts.row(4, 0, 2046))

    def test_small_parts(self):
        parts = helper.Parts(43)
        for i in range(400):
            self.check(parts.row(2, 900, 1023), parts.row(8, 0, 60))

    def test_many_terms(self):
        parts = helper.Parts(44)
        for terms in (2, 3, 16, 63, 64):
            self.check(parts.row(2, 1018, 1022), parts.row(2 * terms, 1000, 1050))
            self.check(parts.row(2, 1020, 1024), parts.row(2 * terms, 1000, 1050))

    def test_how_many_terms_there_may_be(self):
        self.assertEqual(value(row(1, 0), row(1, 2) * 4096), [0] + row(4096, 8192))
        self.assertEqual(value(row(1, 0), row(1, 2) * 4097), [-2])
        self.assertEqual(value(row(1, 0), []), [-2])
