import unittest

from complexrows.rows import solve
from tests import helper
from tests.helper import GREATEST, LEAST, MINUS_ZERO, NOT_FINITE, PLUS_ZERO, bits, row

ONE = bits(1.0)
BIG = 2 ** 53
VANISHING = 2 ** -538  # its square rounds to 0


def reals(*xs):
    """A row of real numbers."""
    return row(*[part for x in xs for part in (x, 0)])


class SolveTest(unittest.TestCase):
    def check(self, a, b):
        answer = solve(a, b)
        self.assertTrue(answer == helper.expected(helper.machine_solve, a, b), (a, b, answer))

    def test_one_equation(self):
        self.assertEqual(solve(row(3, 4), row(-5, 10)), [0] + row(1, 2))
        self.assertEqual(solve(row(0, 2), row(1, 0)), [0] + row(0, -0.5))

    def test_two_equations(self):
        # x + 2y = 5, 4x + y = 6.
        self.assertEqual(solve(reals(1, 2, 4, 1), reals(5, 6)), [0] + reals(1, 2))
        # x + iy = 2 + 3i, 4ix + 2y = 2i.
        self.assertEqual(solve(row(1, 0, 0, 1, 0, 4, 2, 0), row(2, 3, 0, 2)), [0] + row(1, 1, 2, -1))

    def test_three_equations(self):
        self.assertEqual(
            solve(reals(4, 2, 0, 2, 2, 1, 0, 1, 8), reals(8, 9, 26)),
            [0] + reals(1, 2, 3),
        )

    def test_bits(self):
        self.assertEqual(
            solve([0x4008000000000000, 0x4010000000000000], [0xC014000000000000, 0x4024000000000000]),
            [0, 0x3FF0000000000000, 0x4000000000000000],
        )

    def test_rows_change_places_in_b_too(self):
        self.assertEqual(solve(reals(0, 1, 1, 0), reals(2, 3)), [0] + reals(3, 2))
        self.assertEqual(solve(reals(0, 0, 2, 1, 0, 0, 0, 4, 0), reals(6, 7, 8)), [0] + reals(7, 2, 3))
        self.assertEqual(solve(reals(0, 2, 0, 0, 0, 4, 1, 0, 0), reals(6, 8, 7)), [0] + reals(7, 3, 2))

    def test_first_of_the_greatest_is_taken(self):
        # x + big y = big, x = 0.5, or the other way round: the 0.5 is lost unless its row is taken.
        self.assertEqual(solve(reals(1, BIG, 1, 0), reals(BIG, 0.5)), [0] + reals(0, 1))
        self.assertEqual(solve(reals(1, 0, 1, BIG), reals(0.5, BIG)), [0] + reals(0.5, 1))

    def test_numbers_of_the_same_size(self):
        # 5 and 3 + 4i have 25.
        self.assertEqual(solve(row(5, 0, BIG, 0, 3, 4, 0, 0), row(BIG, 0, 1, 0))[1:2], row(0))
        self.assertEqual(solve(row(3, 4, 0, 0, 5, 0, BIG, 0), row(1, 0, BIG, 0))[1:3], row(3 / 25, -4 / 25))
        # So have -1 and 1, i and 1.
        self.assertEqual(solve(reals(1, BIG, -1, 0), reals(BIG, -0.5)), [0] + reals(0, 1))
        self.assertEqual(solve(reals(-1, 0, 1, BIG), reals(-0.5, BIG)), [0] + reals(0.5, 1))
        self.assertEqual(solve(row(0, 1, 0, 0, 1, 0, BIG, 0), row(0, 0.5, BIG, 0)), [0] + reals(0.5, 1))

    def test_sizes_that_are_the_same_by_rounding(self):
        # 1 + 2 to the power of -54 is rounded to 1: the first row is taken.
        q = 2 ** -27
        self.assertEqual(solve(row(1, 0, BIG, 0, 1, q, 0, 0), row(BIG, 0, 0.5, 0)), [0] + reals(0, 1))
        # With twice that q the size is greater: the second row is taken.
        answer = solve(row(1, 0, BIG, 0, 1, 2 * q, 0, 0), row(BIG, 0, 0.5, 0))
        self.assertAlmostEqual(helper.double(answer[1]), 0.5)

    def test_greater_one_further_down_is_taken(self):
        self.assertEqual(solve(reals(1, BIG, 2, 0), reals(BIG, 1)), [0] + reals(0.5, 1))
        self.assertEqual(solve(reals(2, 0, 1, BIG), reals(1, BIG)), [0] + reals(0.5, 1))
        # By the sum of the squares: 25 beside 18, though 3 + 3 is greater than 5.
        self.assertEqual(solve(row(3, 3, BIG, 0, 5, 0, 0, 0), row(BIG, 0, 2.5, 0))[1:3], row(0.5, 0))

    def test_each_order_of_sizes(self):
        # Parts that are rounded, so that each order of the rows would give other bits.
        for sizes in [(1, 2, 3), (1, 3, 2), (2, 1, 3), (2, 3, 1), (3, 1, 2), (3, 2, 1), (1, 3, 3), (3, 3, 1), (2, 2, 1)]:
            for second in [(1, 2, 3), (3, 2, 1), (2, 3, 2)]:
                a, b = [], []
                for i in range(3):
                    a += reals(sizes[i] * 0.1, second[i] * 0.3, (i + 1) * 0.7)
                    b += reals(0.9 - i)
                self.check(a, b)

    def test_only_rows_from_k_on_are_looked_at(self):
        # In the second column the first row's number is the greatest, but is done with.
        self.assertEqual(solve(reals(1, 64, 0, 2), reals(65, 2)), [0] + reals(1, 1))
        self.assertEqual(solve(reals(1, 64, 0, 0, 0, 2, 0, 8, 0), reals(65, 6, 8)), [0] + reals(1, 1, 3))

    def test_steps_tie_to_even(self):
        # y - y' with f = 1: 1 less -big, and 3 less -big.
        self.assertEqual(solve(reals(1, 0, 1, 1), reals(-BIG, 1)), [0] + reals(-BIG, BIG))
        self.assertEqual(solve(reals(1, 0, 1, 1), reals(-BIG, 3)), [0] + reals(-BIG, BIG + 4))
        # Upwards: s less y, s being 1 and 3, y -big.
        self.assertEqual(solve(reals(1, 1, 0, 1), reals(1, -BIG)), [0] + reals(BIG, -BIG))
        self.assertEqual(solve(reals(1, 1, 0, 1), reals(3, -BIG)), [0] + reals(BIG + 4, -BIG))

    def test_upwards_goes_from_the_left(self):
        # What is alone beside 2 big is lost: where 1 comes first, not where it comes last.
        a = reals(1, 1, 1, 1, 0, 1, 0, 0, 0, 0, 1, 0, 0, 0, 0, 1)
        self.assertEqual(solve(a, reals(0, 1, -2 * BIG, 2 * BIG)), [0] + reals(0, 1, -2 * BIG, 2 * BIG))
        self.assertEqual(solve(a, reals(0, 2 * BIG, -2 * BIG, 1)), [0] + reals(-1, 2 * BIG, -2 * BIG, 1))

    def test_product_is_rounded_ahead_of_the_difference(self):
        # x is 1 + 2 to the power of -30, its square is rounded: nothing is left.
        x = 1 + 2 ** -30
        square = 1 + 2 ** -29
        self.assertEqual(solve(reals(1, x, 0, 1), reals(square, x)), [0] + reals(0, x))
        # Downwards too: the second column becomes 0.
        x = 1 - 2 ** -30
        square = 1 - 2 ** -29
        self.assertEqual(solve(reals(1, x, x, square), reals(0, 0)), [-1])

    def test_zeros_and_ones_of_either_sign(self):
        parts = helper.either_sign([PLUS_ZERO, ONE])
        for p in parts:
            for q in parts:
                for r in parts:
                    for s in parts:
                        self.check([p, q], [r, s])
                        self.check([p, q, r, s, s, p, q, r], [r, q, s, p])

    def test_zero_signs(self):
        self.assertEqual(solve(row(1, 0), [MINUS_ZERO, MINUS_ZERO]), [0, MINUS_ZERO, PLUS_ZERO])
        self.assertEqual(solve(row(1, 0), [PLUS_ZERO, MINUS_ZERO]), [0, PLUS_ZERO, MINUS_ZERO])
        self.assertEqual(solve([ONE, MINUS_ZERO], [MINUS_ZERO, PLUS_ZERO]), [0, MINUS_ZERO, PLUS_ZERO])

    def test_subnormal_parts(self):
        self.assertEqual(solve(row(1, 0), [LEAST, 5]), [0, LEAST, 5])
        self.assertEqual(solve(row(2, 0), [3, LEAST]), [0, 2, PLUS_ZERO])
        self.assertEqual(solve(reals(1, 1, 0, 1), [5, 0, 3, LEAST]), [0, 2, LEAST | MINUS_ZERO, 3, LEAST])

    def test_greatest_parts(self):
        self.assertEqual(solve(row(1, 0), [GREATEST, GREATEST | MINUS_ZERO]), [0, GREATEST, GREATEST | MINUS_ZERO])
        half = bits(2.0 ** 970)
        b = [GREATEST, 0, (half - 1) | MINUS_ZERO, 0]
        self.assertEqual(solve(reals(1, 1, 0, 1), b)[:2], [0, GREATEST])
        self.assertEqual(solve(reals(1, 1, 0, 1), [GREATEST, 0, half | MINUS_ZERO, 0]), [-3])

    def test_column_of_zeros(self):
        self.assertEqual(solve(row(0, 0), row(1, 2)), [-1])
        self.assertEqual(solve([MINUS_ZERO, MINUS_ZERO], row(0, 0)), [-1])
        self.assertEqual(solve(reals(0, 1, 0, 2), reals(3, 4)), [-1])
        self.assertEqual(solve(reals(1, 0, 2, 0), reals(3, 4)), [-1])
        self.assertEqual(solve(reals(1, 2, 0, 3, 4, 0, 5, 7, 0), reals(3, 4, 5)), [-1])

    def test_column_that_becomes_zeros(self):
        self.assertEqual(solve(reals(1, 2, 2, 4), reals(3, 4)), [-1])
        self.assertEqual(solve(reals(0, 0, 1, 1), reals(3, 4)), [-1])
        self.assertEqual(solve(row(1, 1, 2, 0, 2, 2, 4, 0), row(1, 0, 2, 0)), [-1])
        self.assertEqual(solve(reals(BIG, 3, 1, 3 / BIG), reals(0, 0)), [-1])

    def test_sizes_that_become_zero_by_rounding(self):
        self.assertEqual(solve(row(VANISHING, 0), row(1, 0)), [-1])
        self.assertEqual(solve(row(0, -VANISHING), row(1, 0)), [-1])
        self.assertEqual(solve(row(VANISHING, VANISHING), row(1, 0)), [-1])
        self.assertEqual(solve([LEAST, LEAST], [LEAST, LEAST]), [-1])
        self.assertEqual(solve(reals(VANISHING, 1, 0, 1), reals(1, 1)), [-1])
        self.assertEqual(solve(reals(1, 0, 0, VANISHING), reals(1, 1)), [-1])

    def test_size_just_above_zero(self):
        self.assertEqual(solve(row(2 * VANISHING, 0), row(2 * VANISHING, 0)), [0] + row(1, 0))

    def test_row_that_is_not_zero_behind_one_whose_size_is(self):
        # f is 0, as the product of the two is rounded to that.
        self.assertEqual(solve(reals(VANISHING, 1, 2 * VANISHING, 0), reals(1, 2 * VANISHING)), [0] + reals(1, 1))

    def test_size_that_is_not_finite(self):
        self.assertEqual(solve(row(1e200, 0), row(1, 0)), [-3])
        self.assertEqual(solve(row(0, -1e200), row(1, 0)), [-3])
        self.assertEqual(solve(row(1.2e154, 1.2e154), row(1, 0)), [-3])
        self.assertEqual(solve(row(1.2e154, 0), row(0, 0)), [0] + row(0, 0))
        self.assertEqual(solve(reals(1, 0, 1e200, 1), reals(1, 1)), [-3])
        self.assertEqual(solve(reals(1, 0, 0, 1e200), reals(1, 1)), [-3])
        # The size of a number that isn't taken counts too; one above row k has none.
        self.assertEqual(solve(reals(1, 0, 0, 0, 1, 0, 0, 1e200, 1), reals(1, 1, 1)), [-3])
        self.assertEqual(solve(reals(1, 1e200, 0, 1), reals(0, 0))[0], 0)

    def test_zero_column_ahead_of_overflow(self):
        # The second column has sizes that aren't finite; b would overflow upwards.
        self.assertEqual(solve(reals(0, 1e200, 0, 1e200), reals(1, 1)), [-1])
        self.assertEqual(solve(reals(0, 1, 0, 1e-300), reals(1e300, 1e300)), [-1])
        self.assertEqual(solve(reals(1, 2, 2, 4), reals(1e308, 1.7e308)), [-1])
        # The third column's sizes aren't finite, the second's are 0.
        self.assertEqual(solve(reals(1, 0, 0, 0, 0, 1e200, 0, 0, 1e200), reals(1, 1, 1)), [-1])
        # x(1) by 1e-150 isn't finite, but column 1 is looked at ahead of it.
        self.assertEqual(solve(reals(1e-150, 0, 0, 0), reals(1e200, 1)), [-1])

    def test_overflow_ahead_of_zero_column(self):
        # A size in the first column, the second having zeros alone.
        self.assertEqual(solve(reals(1e200, 0, 1, 0), reals(1, 1)), [-3])
        self.assertEqual(solve(reals(0, 0, 1e200, 0), reals(1, 1)), [-3])
        # A number of the third column, then of b, while the second column becomes zeros.
        self.assertEqual(solve(reals(1, 1, 1e308, 1, 1, -1e308, 1, 1, 0), reals(1, 1, 1)), [-3])
        self.assertEqual(solve(reals(1, 1, 1, 1), reals(1e308, -1e308)), [-3])
        # f times a number.
        self.assertEqual(solve(row(5, 0, 0, 0, 4, 3, 0, 0), row(1.7e308, -1.7e308, 0, 0)), [-3])

    def test_each_step_that_overflows(self):
        # f times a number, f times one of b: 0.8 + 0.6i times a number whose parts are that great.
        self.assertEqual(solve(row(5, 0, 1.7e308, -1.7e308, 4, 3, 1, 0), reals(0, 0)), [-3])
        self.assertEqual(solve(row(5, 0, 0, 0, 4, 3, 1, 0), row(1.7e308, -1.7e308, 0, 0)), [-3])
        # A number less f times another.
        self.assertEqual(solve(reals(1, 1e308, 1, -1e308), reals(0, 0)), [-3])
        self.assertEqual(solve(row(1, 0, 0, 1e308, 1, 0, 0, -1e308), reals(0, 0)), [-3])
        # b less f times another.
        self.assertEqual(solve(reals(1, 0, 1, 1), reals(1e308, -1e308)), [-3])
        # Upwards: the product, the difference, the quotient.
        self.assertEqual(solve(reals(1, 1e200, 0, 1), reals(0, 1e200)), [-3])
        self.assertEqual(solve(reals(1, 1, 0, 1), reals(1e308, -1e308)), [-3])
        self.assertEqual(solve(reals(1e-150, 0, 0, 1), reals(1e200, 0)), [-3])
        self.assertEqual(solve(reals(1e100, 0, 0, 1), reals(1e300, 0)), [-3])

    def test_intermediate_overflow(self):
        # Upwards 1e308 less -1e308, which 1e308 behind it would bring back.
        a = reals(1, 1, 1, 0, 1, 0, 0, 0, 1)
        self.assertEqual(solve(a, reals(1e308, -1e308, 1e308)), [-3])
        self.assertEqual(solve(a, reals(1e308, 1e308, -1e308)), [0] + reals(1e308, 1e308, -1e308))

    def test_no_equations(self):
        self.assertEqual(solve([], []), [-2])

    def test_too_many_equations(self):
        self.assertEqual(solve(row(1, 0) * 81, row(1, 0) * 9), [-2])

    def test_not_finite_part_comes_first(self):
        refused = [
            (reals(0, 1, 0, 1), reals(1, 2), -1),
            (reals(1e200, 1, 0, 1), reals(1, 2), -3),
        ]
        for a, b, number in refused:
            self.assertEqual(solve(a, b), [number])
            for part in NOT_FINITE:
                self.assertEqual(solve([part] + a[1:], b), [-2])
                self.assertEqual(solve(a[:-1] + [part], b), [-2])
                self.assertEqual(solve(a, [part] + b[1:]), [-2])
                self.assertEqual(solve(a, b[:-1] + [part]), [-2])

    def test_parts_of_near_sizes(self):
        parts = helper.Parts(71)
        for i in range(200):
            n = 1 + i % 5
            self.check(parts.row(2 * n * n, 1015, 1030), parts.row(2 * n, 1015, 1030))

    def test_small_whole_parts(self):
        # Many numbers of the same size, many columns of zeros.
        parts = helper.Parts(72)
        for i in range(600):
            n = 2 + i % 3
            a = row(*[parts.whole(3) - 1 for j in range(2 * n * n)])
            self.check(a, row(*[parts.whole(5) - 2 for j in range(2 * n)]))

    def test_parts_of_every_size(self):
        parts = helper.Parts(73)
        for i in range(1000):
            self.check(parts.row(2, 0, 2046), parts.row(2, 0, 2046))
            self.check(parts.row(8, 300, 1600), parts.row(4, 0, 2046))
            self.check(parts.row(8, 480, 540), parts.row(4, 300, 700))

    def test_eight_equations(self):
        parts = helper.Parts(74)
        for n in (7, 8):
            for i in range(4):
                a, b = parts.row(2 * n * n, 1015, 1030), parts.row(2 * n, 1015, 1030)
                self.assertEqual(len(solve(a, b)), 1 + 2 * n)
                self.check(a, b)
