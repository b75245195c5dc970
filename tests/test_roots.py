import unittest

from complexrows.rows import roots
from tests import helper
from tests.helper import GREATEST, LEAST, MINUS_ZERO, NOT_FINITE, PLUS_ZERO, bits, row

ONE = bits(1.0)


class RootsTest(unittest.TestCase):
    def check(self, c, z):
        answer = roots(c, z)
        self.assertTrue(answer == helper.expected(helper.machine_roots, c, z), (c, z, answer))

    def test_one_guess(self):
        # -6 + 2z, from 1: v is -4, d is 2.
        self.assertEqual(roots(row(-6, 0, 2, 0), row(1, 0)), [0] + row(3, 0))
        self.assertEqual(roots(row(0, -4, 0, 2), row(1, 1)), [0] + row(2, 0))

    def test_two_guesses(self):
        # z z - 4: from 4 and 0, v is 12 and d 4, so 1; then from 0 and 1, v is -4 and d -1.
        self.assertEqual(roots(row(-4, 0, 0, 0, 1, 0), row(4, 0, 0, 0)), [0] + row(1, 0, -4, 0))
        # 2 (z z - 4): v and d are twice as great.
        self.assertEqual(roots(row(-8, 0, 0, 0, 2, 0), row(4, 0, 0, 0)), [0] + row(1, 0, -4, 0))

    def test_bits(self):
        self.assertEqual(
            roots([0xC018000000000000, 0, 0x4000000000000000, 0], [0x3FF0000000000000, 0]),
            [0, 0x4008000000000000, 0],
        )

    def test_guesses_before_are_made_anew_and_those_behind_are_not(self):
        # z z z - z, from 2, 4 and -2: 6 by -8, then with 2.75 in place of 2, then with both.
        first = 2 - 6 / ((2.0 - 4) * (2.0 - -2))
        second = 4 - 60 / ((4.0 - first) * (4.0 - -2))
        third = -2 - -6 / ((-2.0 - first) * (-2.0 - second))
        answer = roots(row(0, 0, -1, 0, 0, 0, 1, 0), row(2, 0, 4, 0, -2, 0))
        self.assertEqual(first, 2.75)
        for place, z in enumerate((first, second, third)):
            self.assertAlmostEqual(helper.double(answer[1 + 2 * place]), z, places=12)
        self.check(row(0, 0, -1, 0, 0, 0, 1, 0), row(2, 0, 4, 0, -2, 0))

    def test_guesses_that_are_zeros_stay(self):
        # (z - 1) (z - 2) (z - 3)
        self.assertEqual(roots(row(-6, 0, 11, 0, -6, 0, 1, 0), row(1, 0, 2, 0, 3, 0)), [0] + row(1, 0, 2, 0, 3, 0))
        self.assertEqual(roots(row(1, 0, 0, 0, 1, 0), row(0, 1, 0, -1)), [0] + row(0, 1, 0, -1))

    def test_rounds_come_to_the_zeros(self):
        c = row(-6, 0, 11, 0, -6, 0, 1, 0)
        z = row(1, 0, 0.4, 0.9, -0.65, 0.72)
        for i in range(20):
            z = roots(c, z)[1:]
        found = sorted(helper.double(part) for part in z[0::2])
        for zero, near in zip((1, 2, 3), found):
            self.assertAlmostEqual(zero, near, places=12)

    def test_divisor_is_made_in_order(self):
        first, second, third, leading = 0.1, 0.3, 0.9, 1.7

        def made_anew(d):
            v = leading * first * first * first - 1
            return first - (v * d) / (d * d)

        told = made_anew((leading * (first - second)) * (first - third))
        self.assertNotEqual(told, made_anew((leading * (first - third)) * (first - second)))
        self.assertNotEqual(told, made_anew(((first - second) * (first - third)) * leading))
        answer = roots(row(-1, 0, 0, 0, 0, 0, leading, 0), row(first, 0, second, 0, third, 0))
        self.assertEqual(answer[1], bits(told))

    def test_steps_tie_to_even(self):
        big = 2 ** 53
        # v is big + 1, rounded to big, and big + 3, rounded to big + 4.
        self.assertEqual(roots(row(1, 0, 1, 0), row(big, 0)), [0] + row(0, 0))
        self.assertEqual(roots(row(3, 0, 1, 0), row(big, 0)), [0] + row(-4, 0))
        # v is -big - 1, rounded to -big; then the last difference is big + 1 and big + 3.
        self.assertEqual(roots(row(-big - 2, 0, 1, 0), row(1, 0)), [0] + row(big, 0))
        self.assertEqual(roots(row(-big - 4, 0, 1, 0), row(3, 0)), [0] + row(big + 4, 0))

    def test_product_is_rounded_ahead_of_the_sum(self):
        # v is x x - (1 + 2 to the power of -29), 0 as x x is rounded to that. So the guess stays.
        x = 1 + 2 ** -30
        self.assertEqual(roots(row(-(1 + 2 ** -29), 0, x, 0), row(x, 0)), [0] + row(x, 0))

    def test_zero_signs(self):
        plus, minus = PLUS_ZERO, MINUS_ZERO
        # v is +0 + 0i: z less that keeps a zero's sign.
        self.assertEqual(roots([plus, plus, ONE, plus], [plus, plus]), [0, plus, plus])
        self.assertEqual(roots([plus, plus, ONE, plus], [minus, minus]), [0, minus, minus])

    def test_zeros_and_ones_of_either_sign(self):
        parts = helper.either_sign([PLUS_ZERO, ONE])
        for p in parts:
            for q in parts:
                for r in parts:
                    for s in parts:
                        self.check([p, q, r, s], [s, p])
                        self.check([p, q, r, s, r, q], [s, p, q, r])

    def test_same_guesses(self):
        self.assertEqual(roots(row(2, 0, -3, 0, 1, 0), row(3, 1, 3, 1)), [-3])
        self.assertEqual(roots(row(2, 0, -3, 0, 1, 0), [PLUS_ZERO, PLUS_ZERO, MINUS_ZERO, MINUS_ZERO]), [-3])
        self.assertEqual(roots(row(2, 0, -3, 0, 1, 0, 1, 0), row(3, 1, 4, 1, 3, 1)), [-3])
        # The same in one part alone is another guess.
        self.assertEqual(roots(row(2, 0, -3, 0, 1, 0), row(3, 1, 3, 2))[0], 0)

    def test_guesses_that_become_the_same(self):
        # z z from 4 and 0: v is 16, d 4, so the first becomes 0, as the second is.
        self.assertEqual(roots(row(0, 0, 0, 0, 1, 0), row(4, 0, 0, 0)), [-3])
        # z z - 4 from 6 and 2: v is 32, d 4, so -2; from 6 and -2: d 8, so 2. Neither is the second.
        self.assertEqual(roots(row(-4, 0, 0, 0, 1, 0), row(6, 0, 2, 0)), [0] + row(-2, 0, 2, 0))
        self.assertEqual(roots(row(-4, 0, 0, 0, 1, 0), row(6, 0, -2, 0)), [0] + row(2, 0, -2, 0))

    def test_leading_term_zero(self):
        self.assertEqual(roots(row(1, 0, 0, 0), row(1, 0)), [-3])
        self.assertEqual(roots([ONE, 0, MINUS_ZERO, MINUS_ZERO], row(1, 0)), [-3])
        self.assertEqual(roots(row(0, 0, 0, 0), row(0, 0)), [-3])
        self.assertEqual(roots(row(2, 0, -3, 0, 0, 0), row(1, 0, 3, 0)), [-3])

    def test_divisor_whose_size_becomes_zero(self):
        self.assertEqual(roots(row(1, 0, 2 ** -538, 0), row(1, 0)), [-3])
        self.assertEqual(roots([ONE, 0, LEAST, LEAST], row(1, 0)), [-3])

    def test_subnormal_parts(self):
        self.assertEqual(roots([5, 0, ONE, 0], [3, LEAST]), [0, 5 | MINUS_ZERO, PLUS_ZERO])
        # Halves of 3 and of 1 least doubles.
        self.assertEqual(roots([3, 0] + row(2, 0), row(0, 0)), [0, 2 | MINUS_ZERO, PLUS_ZERO])
        self.assertEqual(roots([1, 0] + row(2, 0), row(0, 0)), [0, PLUS_ZERO, PLUS_ZERO])

    def test_greatest_parts(self):
        self.assertEqual(roots([GREATEST, 0, ONE, 0], row(0, 0)), [0, GREATEST | MINUS_ZERO, PLUS_ZERO])
        self.assertEqual(roots([0, GREATEST, ONE, 0], row(0, 0)), [0, PLUS_ZERO, GREATEST | MINUS_ZERO])
        self.assertEqual(roots([0, 0, ONE, 0], [GREATEST, GREATEST]), [0, PLUS_ZERO, PLUS_ZERO])

    def test_each_step_that_overflows(self):
        back = GREATEST | MINUS_ZERO
        # The value: its product, its sum.
        self.assertEqual(roots(row(0, 0, 1e200, 0), row(1e200, 0)), [-3])
        self.assertEqual(roots([GREATEST, 0, ONE, 0], [GREATEST, 0]), [-3])
        # The difference of two guesses; the value is that of 0 alone.
        self.assertEqual(roots([0, 0, 0, 0, LEAST, 0], [GREATEST, 0, back, 0]), [-3])
        self.assertEqual(roots([0, 0, 0, 0, LEAST, 0], [0, bits(1.7e308), 0, bits(-1.7e308)]), [-3])
        # The size of d, and the quotient.
        self.assertEqual(roots(row(0, 0, 1e200, 0), row(0, 0)), [-3])
        self.assertEqual(roots(row(1e200, 0, 1e-150, 0), row(0, 0)), [-3])
        # The last difference: v is -0.6e308, v by d -1.2e308.
        self.assertEqual(roots(row(-1.2e308, 0, 0.5, 0), row(1.2e308, 0)), [-3])
        self.assertEqual(roots(row(0, -1.2e308, 0.5, 0), row(0, 1.2e308)), [-3])

    def test_no_guesses(self):
        self.assertEqual(roots([], []), [-2])

    def test_too_many_guesses(self):
        self.assertEqual(roots(row(*range(36)), row(*range(34))), [-2])

    def test_not_finite_part_comes_ahead_of_zero_divisor(self):
        c, z = row(2, 0, -3, 0, 0, 0), row(3, 1, 3, 1)
        self.assertEqual(roots(c, z), [-3])
        for part in NOT_FINITE:
            self.assertEqual(roots([part] + c[1:], z), [-2])
            self.assertEqual(roots(c[:-1] + [part], z), [-2])
            self.assertEqual(roots(c, [part] + z[1:]), [-2])
            self.assertEqual(roots(c, z[:-1] + [part]), [-2])

    def test_parts_of_near_sizes(self):
        parts = helper.Parts(61)
        for i in range(300):
            n = 1 + i % 5
            self.check(parts.row(2 * n + 2, 1015, 1030), parts.row(2 * n, 1018, 1027))

    def test_parts_of_every_size(self):
        parts = helper.Parts(62)
        for i in range(1000):
            self.check(parts.row(4, 0, 2046), parts.row(2, 0, 2046))
            self.check(parts.row(6, 500, 1500), parts.row(4, 700, 1300))

    def test_small_parts(self):
        parts = helper.Parts(63)
        for i in range(300):
            self.check(parts.row(4, 0, 60) + parts.row(2, 600, 1023), parts.row(4, 900, 1023))

    def test_sixteen_guesses(self):
        parts = helper.Parts(64)
        for n in (15, 16):
            for i in range(3):
                c, z = parts.row(2 * n + 2, 1018, 1026), parts.row(2 * n, 1018, 1024)
                self.assertEqual(len(roots(c, z)), 1 + 2 * n)
                self.check(c, z)
