import math
import unittest

from complexrows.rows import transform
from tests import helper
from tests.helper import GREATEST, LEAST, MINUS_ZERO, NOT_FINITE, PLUS_ZERO, bits, row

ONE = bits(1.0)


def circle(k):
    """The numbers of w that make the transform that of Fourier."""
    n = 2 ** k
    w = []
    for j in range(n // 2):
        w += row(math.cos(2 * math.pi * j / n), -math.sin(2 * math.pi * j / n))
    return w


class TransformTest(unittest.TestCase):
    def check(self, k, a, w):
        answer = transform(k, a, w)
        self.assertTrue(answer == helper.expected(helper.machine_transform, a, w), (k, a, w, answer))

    def test_one_number(self):
        self.assertEqual(transform(0, row(1, 2), []), [0] + row(1, 2))
        for p in helper.either_sign(helper.SIZES):
            self.assertEqual(transform(0, [p, MINUS_ZERO], []), [0, p, MINUS_ZERO])

    def test_two_numbers(self):
        self.assertEqual(transform(1, row(1, 2, 3, 5), row(1, 0)), [0] + row(4, 7, -2, -3))
        self.assertEqual(transform(1, row(1, 2, 3, 5), row(0, 2)), [0] + row(-9, 8, 11, -4))

    def test_four_numbers(self):
        # The blocks are (a0, a2) and (a1, a3); w(0) = 1, w(1) = -i.
        self.assertEqual(
            transform(2, row(1, 0, 2, 0, 3, 0, 5, 0), row(1, 0, 0, -1)),
            [0] + row(11, 0, -2, 3, -3, 0, -2, -3),
        )

    def test_bits(self):
        self.assertEqual(
            transform(1, [0x3FF0000000000000, 0x4000000000000000, 0x4008000000000000, 0], [0x4000000000000000, 0]),
            [0, 0x401C000000000000, 0x4000000000000000, 0xC014000000000000, 0x4000000000000000],
        )

    def test_order_ahead_of_the_first_stage(self):
        # With zeros in w each block's first number comes to stand in all of the block.
        self.assertEqual(transform(3, row(*range(1, 17)), row(0, 0) * 4), [0] + row(1, 2) * 8)
        # (a0, a2) and (a1, a3) make the first blocks, the others would show other sums.
        for place, sums in [(0, [1, 1, 1, 1]), (2, [1, -1, 1, -1]), (1, [1, 0, -1, 0]), (3, [1, 0, -1, 0])]:
            a = row(0, 0) * 4
            a[2 * place] = ONE
            answer = transform(2, a, row(1, 0, 0, 0))
            self.assertEqual([helper.double(part) for part in answer[1::2]], sums, place)

    def test_numbers_of_w_that_each_stage_takes(self):
        # Primes in w show in the result which of them were taken, and with which numbers.
        w = row(2, 0, 3, 0, 5, 0, 7, 0)
        ones = row(1, 0) * 8
        # First stage: 1 + 2 = 3 and 1 - 2 = -1. Second: w(0), w(2): 3 + 6, -1 - 5, 3 - 6, -1 + 5.
        block = [9, -6, -3, 4]
        turned = [x * y for x, y in zip(block, [2, 3, 5, 7])]
        whole = [u + t for u, t in zip(block, turned)] + [u - t for u, t in zip(block, turned)]
        answer = transform(3, ones, w)
        self.assertEqual([helper.double(part) for part in answer[1::2]], whole)

    def test_one_number_at_each_place(self):
        # Without rounding: w of small whole numbers, a with one 1.
        w = row(1, 1, 2, -1, 0, 3, -1, 2)
        for place in range(8):
            a = row(0, 0) * 8
            a[2 * place] = ONE
            self.check(3, a, w)

    def test_transform_of_fourier(self):
        for k in range(7):
            n = 2 ** k
            numbers = [complex((3 * i) % 7 - 3, (5 * i) % 11 - 4) for i in range(n)]
            a = row(*[part for x in numbers for part in (x.real, x.imag)])
            answer = transform(k, a, circle(k))
            self.assertEqual(len(answer), 1 + 2 * n)
            for f in range(n):
                terms = [
                    x * complex(math.cos(2 * math.pi * f * i / n), -math.sin(2 * math.pi * f * i / n))
                    for i, x in enumerate(numbers)
                ]
                real, imaginary = helper.double(answer[1 + 2 * f]), helper.double(answer[2 + 2 * f])
                self.assertLess(abs(complex(real, imaginary) - sum(terms)), 1e-10)

    def test_steps_tie_to_even(self):
        big = 2 ** 53
        self.assertEqual(
            transform(1, row(big, big + 2, 1, 1), row(1, 0)),
            [0] + row(big, big + 4, big - 1, big),
        )
        self.assertEqual(transform(1, row(big, 0, 3, 0), row(1, 0)), [0] + row(big + 4, 0, big - 3, 0))
        self.assertEqual(
            transform(1, [0, 0, ONE + 1, ONE + 3], row(1.5, 0)),
            [0, 0x3FF8000000000002, 0x3FF8000000000004, 0xBFF8000000000002, 0xBFF8000000000004],
        )

    def test_product_is_rounded_ahead_of_the_sums(self):
        x = 1 + 2 ** -30
        square = 1 + 2 ** -29
        self.assertEqual(transform(1, row(square, 0, x, 0), row(x, 0)), [0] + row(2 * square, 0, 0, 0))
        self.assertEqual(transform(1, row(-square, 0, x, 0), row(x, 0)), [0] + row(0, 0, -2 * square, 0))

    def test_zero_signs(self):
        parts = helper.either_sign([PLUS_ZERO, ONE])
        for p in parts:
            for q in parts:
                for r in parts:
                    for s in parts:
                        for w in (row(1, 0), row(-1, 0), [MINUS_ZERO, MINUS_ZERO], [ONE, MINUS_ZERO]):
                            self.check(1, [p, q, r, s], w)
        # t is -0 + 0i: beside u = -0 - 0i the sum keeps the first sign, the difference the second.
        self.assertEqual(
            transform(1, [MINUS_ZERO, MINUS_ZERO, PLUS_ZERO, PLUS_ZERO], row(-1, 0)),
            [0, MINUS_ZERO, PLUS_ZERO, PLUS_ZERO, MINUS_ZERO],
        )

    def test_subnormal_and_greatest_parts(self):
        self.assertEqual(transform(1, [5, 7, 3, LEAST], row(1, 0)), [0, 8, 8, 2, 6])
        self.assertEqual(transform(1, [5, 7, 3, LEAST], row(0.5, 0)), [0, 7, 7, 3, 7])
        self.assertEqual(
            transform(1, [GREATEST, 0, LEAST, 0], row(1, 0)), [0, GREATEST, PLUS_ZERO, GREATEST, PLUS_ZERO]
        )
        half = bits(2.0 ** 970)
        self.assertEqual(transform(1, [GREATEST, 0, half - 1, 0], row(1, 0))[:2], [0, GREATEST])
        self.assertEqual(transform(1, [GREATEST, 0, half, 0], row(1, 0)), [-3])

    def test_each_operation_that_overflows(self):
        huge = 1e200
        self.assertEqual(transform(1, row(0, 0, huge, 0), row(huge, 0)), [-3])
        self.assertEqual(transform(1, row(0, 0, 0, huge), row(0, huge)), [-3])
        self.assertEqual(transform(1, row(0, 0, huge, 0), row(0, huge)), [-3])
        self.assertEqual(transform(1, row(0, 0, 0, huge), row(huge, 0)), [-3])
        self.assertEqual(transform(1, [0, 0, GREATEST, GREATEST], row(1, -1)), [-3])
        self.assertEqual(transform(1, [0, 0, GREATEST, GREATEST], row(1, 1)), [-3])
        # The sums, then the differences, of either part.
        back = GREATEST | MINUS_ZERO
        self.assertEqual(transform(1, [GREATEST, 0, GREATEST, 0], row(1, 0)), [-3])
        self.assertEqual(transform(1, [0, GREATEST, 0, GREATEST], row(1, 0)), [-3])
        self.assertEqual(transform(1, [GREATEST, 0, back, 0], row(1, 0)), [-3])
        self.assertEqual(transform(1, [0, GREATEST, 0, back], row(1, 0)), [-3])

    def test_intermediate_overflow(self):
        # The first stage overflows; with w(0) = 0 in the second it would be gone.
        a = [0, 0, GREATEST, 0, 0, 0, GREATEST, 0]
        self.assertEqual(transform(2, a, row(1, 0, 0, 0)), [-3])
        self.assertEqual(transform(2, row(0, 0, 1e200, 0, 0, 0, 1e200, 0), row(1e200, 0, 0, 0)), [-3])

    def test_k_out_of_its_range(self):
        for k in (-2147483648, -7, -2, -1, 11, 12, 64, 2147483647):
            self.assertEqual(transform(k, [], []), [-2], k)

    def test_not_finite_part(self):
        for k in range(4):
            n = 2 ** k
            a, w = row(1, 2) * n, row(3, 4) * (n // 2)
            for part in NOT_FINITE:
                self.assertEqual(transform(k, [part] + a[1:], w), [-2])
                self.assertEqual(transform(k, a[:-1] + [part], w), [-2])
                for place in range(len(w)):
                    bad = w[:place] + [part] + w[place + 1:]
                    self.assertEqual(transform(k, a, bad), [-2])

    def test_not_finite_part_comes_ahead_of_overflow(self):
        a, w = row(1e200, 1e200) * 4, row(1e200, 0, 1e200, 0)
        self.assertEqual(transform(2, a, w), [-3])
        for part in NOT_FINITE:
            self.assertEqual(transform(2, [part] + a[1:], w), [-2])
            self.assertEqual(transform(2, a[:-1] + [part], w), [-2])
            # The first stage doesn't use w(1), and overflows.
            self.assertEqual(transform(2, a, w[:-1] + [part]), [-2])
            self.assertEqual(transform(2, a, [part] + w[1:]), [-2])

    def test_parts_of_near_sizes(self):
        parts = helper.Parts(51)
        for i in range(70):
            n = 2 ** (i % 7)
            self.check(i % 7, parts.row(2 * n, 1010, 1036), parts.row(2 * (n // 2), 1018, 1026))

    def test_parts_of_every_size(self):
        parts = helper.Parts(52)
        for i in range(1000):
            self.check(1, parts.row(4, 0, 2046), parts.row(2, 0, 2046))
            self.check(2, parts.row(8, 0, 1700), parts.row(4, 600, 1200))

    def test_small_parts(self):
        parts = helper.Parts(53)
        for i in range(100):
            self.check(3, parts.row(16, 0, 60), parts.row(8, 990, 1025))

    def test_greatest_k(self):
        parts = helper.Parts(54)
        for k in (6, 7, 10):
            self.check(k, parts.row(2 ** (k + 1), 1000, 1040), circle(k))
