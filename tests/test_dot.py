import unittest

from complexrows.rows import dot
from tests import helper
from tests.helper import GREATEST, LEAST, MINUS_ZERO, NOT_FINITE, PLUS_ZERO, bits, row

ONE = bits(1.0)


class DotTest(unittest.TestCase):
    def check(self, a, b):
        answer = dot(a, b)
        self.assertTrue(answer == helper.expected(helper.machine_dot, a, b), (a, b, answer))

    def test_ordinary_rows(self):
        # (1 + 2i) (3 - 4i), then (5 - i) (0.5 - 2i).
        self.assertEqual(dot(row(1, 2), row(3, 4)), [0] + row(11, 2))
        self.assertEqual(dot(row(1, 2, 5, -1), row(3, 4, 0.5, 2)), [0] + row(11.5, -8.5))

    def test_bits(self):
        self.assertEqual(
            dot([0x3FF0000000000000, 0x4000000000000000], [0x4008000000000000, 0x4010000000000000]),
            [0, 0x4026000000000000, 0x4000000000000000],
        )

    def test_sign_is_turned_in_b_not_in_a(self):
        self.assertEqual(dot(row(0, 1), row(1, 0)), [0] + row(0, 1))
        self.assertEqual(dot(row(1, 0), row(0, 1)), [0] + row(0, -1))

    def test_empty_rows(self):
        self.assertEqual(dot([], []), [0, PLUS_ZERO, PLUS_ZERO])

    def test_sum_goes_in_order(self):
        # From the front 1 is lost against 2 to the power of 53, from the back it isn't.
        big = 2 ** 53
        ones = row(1, 0, 1, 0, 1, 0)
        self.assertEqual(dot(row(big, 0, 1, 0, -big, 0), ones), [0] + row(0, 0))
        self.assertEqual(dot(row(big, 0, -big, 0, 1, 0), ones), [0] + row(1, 0))
        self.assertEqual(dot(row(1, 0, big, 0, -big, 0), ones), [0] + row(0, 0))
        self.assertEqual(dot(row(0, big, 0, 1, 0, -big), ones), [0] + row(0, 0))
        self.assertEqual(dot(row(0, big, 0, -big, 0, 1), ones), [0] + row(0, 1))

    def test_number_is_made_ahead_of_the_sum(self):
        # The parts of one product cancel first: added to the sum one by one, the 1 would be lost.
        big = 2 ** 53
        self.assertEqual(dot(row(1, 0, big, big), row(1, 0, 1, -1)), [0] + row(1, 2 ** 54))

    def test_sum_ties_to_even(self):
        big = 2 ** 53
        self.assertEqual(dot(row(big, big, 1, 3), row(1, 0, 1, 0)), [0] + row(big, big + 4))
        self.assertEqual(dot(row(big + 2, -big, 1, -1), row(1, 0, 1, 0)), [0] + row(big + 4, -big))

    def test_product_ties_to_even(self):
        self.assertEqual(dot([ONE + 1, ONE + 3], row(1.5, 0)), [0, 0x3FF8000000000002, 0x3FF8000000000004])

    def test_products_are_rounded_ahead_of_the_sum(self):
        # A fused step would leave what the rounding of x times x dropped.
        x = 1 + 2 ** -30
        square = 1 + 2 ** -29
        self.assertEqual(dot(row(x, 0, -square, 0), row(x, 0, 1, 0)), [0] + row(0, 0))
        self.assertEqual(dot(row(-square, 0, x, 0), row(1, 0, x, 0)), [0] + row(0, 0))

    def test_zero_signs(self):
        plus, minus = PLUS_ZERO, MINUS_ZERO
        # The sum starts at +0, so no sum of zeros is negative.
        for p in (plus, minus):
            for q in (plus, minus):
                for r in (plus, minus):
                    for s in (plus, minus):
                        self.assertEqual(dot([p, q], [r, s]), [0, plus, plus])
        self.assertEqual(dot([minus, minus], row(1, 0)), [0, plus, plus])

    def test_sums_that_cancel(self):
        self.assertEqual(dot(row(1, 2, -1, -2), row(1, 0, 1, 0)), [0, PLUS_ZERO, PLUS_ZERO])
        self.assertEqual(dot(row(-1, -2, 1, 2), row(1, 0, 1, 0)), [0, PLUS_ZERO, PLUS_ZERO])
        self.assertEqual(dot([GREATEST, 0, GREATEST | MINUS_ZERO, 0], row(1, 0, 1, 0)), [0, PLUS_ZERO, PLUS_ZERO])

    def test_negative_product_that_becomes_zero(self):
        # Beside a sum that isn't 0, and beside +0, where the sign is lost.
        tiny = [LEAST | MINUS_ZERO, 0]
        self.assertEqual(dot(tiny, row(0.5, 0)), [0, PLUS_ZERO, PLUS_ZERO])
        self.assertEqual(dot(row(1, 0) + tiny, row(1, 0, 0.5, 0)), [0, ONE, PLUS_ZERO])

    def test_subnormal_parts(self):
        self.assertEqual(dot([LEAST, 5, LEAST, 7], row(1, 0, 1, 0)), [0, 2, 12])
        self.assertEqual(dot([3, 0], row(0.5, 0)), [0, 2, PLUS_ZERO])
        self.assertEqual(dot([0x000FFFFFFFFFFFFF, 0, LEAST, 0], row(1, 0, 1, 0)), [0, 0x0010000000000000, PLUS_ZERO])

    def test_greatest_parts(self):
        self.assertEqual(dot([GREATEST, GREATEST], row(1, 0)), [0, GREATEST, GREATEST])
        half = bits(2.0 ** 970)
        self.assertEqual(dot([GREATEST, 0, half - 1, 0], row(1, 0, 1, 0)), [0, GREATEST, PLUS_ZERO])
        self.assertEqual(dot([GREATEST, 0, half, 0], row(1, 0, 1, 0)), [-3])

    def test_each_operation_that_overflows(self):
        huge = 1e200
        self.assertEqual(dot(row(huge, 0), row(huge, 0)), [-3])
        self.assertEqual(dot(row(0, huge), row(0, huge)), [-3])
        self.assertEqual(dot(row(huge, 0), row(0, huge)), [-3])
        self.assertEqual(dot(row(0, huge), row(huge, 0)), [-3])
        self.assertEqual(dot([GREATEST, GREATEST], row(1, 1)), [-3])
        self.assertEqual(dot([GREATEST, GREATEST], row(1, -1)), [-3])
        self.assertEqual(dot([GREATEST, 0, GREATEST, 0], row(1, 0, 1, 0)), [-3])
        self.assertEqual(dot([0, GREATEST, 0, GREATEST], row(1, 0, 1, 0)), [-3])

    def test_intermediate_overflow(self):
        # What comes behind would bring the sum back.
        back = GREATEST | MINUS_ZERO
        ones = row(1, 0, 1, 0, 1, 0)
        self.assertEqual(dot([GREATEST, 0, GREATEST, 0, back, 0], ones), [-3])
        self.assertEqual(dot([GREATEST, 0, back, 0, GREATEST, 0], ones), [0, GREATEST, PLUS_ZERO])
        # The products overflow with either sign, their difference would be 0 or not a number.
        self.assertEqual(dot(row(1e200, 1e200), row(1e200, -1e200)), [-3])

    def test_not_finite_part_comes_ahead_of_overflow(self):
        for part in NOT_FINITE:
            for bad in ([part, PLUS_ZERO], [PLUS_ZERO, part]):
                self.assertEqual(dot(row(1e200, 0) + bad, row(1e200, 0, 1, 0)), [-2])
                self.assertEqual(dot(row(1e200, 0, 1, 0), row(1e200, 0) + bad), [-2])
                self.assertEqual(dot(bad + row(1e200, 0), row(1, 0, 1e200, 0)), [-2])
                self.assertEqual(dot(row(1, 0, 1e200, 0), bad + row(1e200, 0)), [-2])

    def test_not_finite_part_beside_zero(self):
        for part in NOT_FINITE:
            self.assertEqual(dot([part, PLUS_ZERO], row(0, 0)), [-2])
            self.assertEqual(dot(row(0, 0), [PLUS_ZERO, part]), [-2])

    def test_parts_of_near_sizes(self):
        parts = helper.Parts(31)
        for i in range(300):
            self.check(parts.row(12, 1010, 1036), parts.row(12, 1010, 1036))

    def test_parts_of_every_size(self):
        parts = helper.Parts(32)
        for i in range(1000):
            self.check(parts.row(4, 0, 2046), parts.row(4, 0, 2046))

    def test_small_parts(self):
        parts = helper.Parts(33)
        for i in range(300):
            self.check(parts.row(8, 0, 540), parts.row(8, 440, 600))

    def test_long_rows(self):
        parts = helper.Parts(34)
        for length in (2, 4, 62, 126, 128):
            self.check(parts.row(length, 1000, 1050), parts.row(length, 1000, 1050))

    def test_longest_row(self):
        self.assertEqual(dot(row(1, 2) * 4096, row(1, 0) * 4096), [0] + row(4096, 8192))
        self.assertEqual(dot(row(1, 2) * 4097, row(1, 0) * 4097), [-2])
        self.assertEqual(dot(row(1e200, 2) * 4097, row(1e200, 0) * 4097), [-2])
