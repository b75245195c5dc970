import unittest

from complexrows.rows import sort
from tests import helper
from tests.helper import GREATEST, LEAST, MINUS_ZERO, NOT_FINITE, PLUS_ZERO, bits, double, row

ONE = bits(1.0)


def compared(x, y):
    """By the machine's doubles: below, the same, or above, the real parts first."""
    for p, q in zip(x, y):
        if double(p) != double(q):
            return -1 if double(p) < double(q) else 1
    return 0


def expected_order(a):
    numbers = [a[i:i + 2] for i in range(0, len(a), 2)]
    in_order = []
    for number in numbers:
        # Behind all that are below it or the same.
        place = len([other for other in in_order if compared(other, number) <= 0])
        in_order.insert(place, number)
    return [part for number in in_order for part in number]


def joined(numbers):
    return [part for number in numbers for part in number]


class SortTest(unittest.TestCase):
    def check(self, a):
        answer = sort(a)
        self.assertTrue(answer == [0] + expected_order(a), (a, answer))

    def test_ordinary_rows(self):
        self.assertEqual(sort(row(3, 1, 1, 2, 2, 3)), [0] + row(1, 2, 2, 3, 3, 1))
        self.assertEqual(sort(row(1, 3, 1, 1, 0, 9, 1, 2)), [0] + row(0, 9, 1, 1, 1, 2, 1, 3))

    def test_bits(self):
        self.assertEqual(
            sort([0x4000000000000000, 0, 0x3FF0000000000000, 0x4008000000000000]),
            [0, 0x3FF0000000000000, 0x4008000000000000, 0x4000000000000000, 0],
        )

    def test_empty_row(self):
        self.assertEqual(sort([]), [0])

    def test_one_number(self):
        self.assertEqual(sort(row(3, -4)), [0] + row(3, -4))
        self.assertEqual(sort([MINUS_ZERO, PLUS_ZERO]), [0, MINUS_ZERO, PLUS_ZERO])

    def test_rows_in_order_and_in_the_other_order(self):
        for length in (2, 3, 10, 63, 64):
            up = joined([row(i // 3, i) for i in range(length)])
            down = joined([row(i // 3, i) for i in reversed(range(length))])
            self.assertEqual(sort(up), [0] + up)
            self.assertEqual(sort(down), [0] + up)

    def test_imaginary_parts_count_only_beside_the_same_real_part(self):
        self.assertEqual(sort(row(2, -9, 1, 9, 2, -10)), [0] + row(1, 9, 2, -10, 2, -9))

    def test_negative_and_positive_parts(self):
        self.assertEqual(sort(row(1, 0, -1, 0, -2, 0, 2, 0)), [0] + row(-2, 0, -1, 0, 1, 0, 2, 0))
        self.assertEqual(sort(row(0, 1, 0, -1, 0, -2, 0, 2)), [0] + row(0, -2, 0, -1, 0, 1, 0, 2))
        self.assertEqual(sort(row(-1, 1, -1, -1, -1.5, 5, -0.5, -5)), [0] + row(-1.5, 5, -1, -1, -1, 1, -0.5, -5))

    def test_zeros_are_the_same_and_stay_in_order(self):
        plus, minus = PLUS_ZERO, MINUS_ZERO
        zeros = [[plus, plus], [minus, plus], [plus, minus], [minus, minus]]
        for first in zeros:
            for second in zeros:
                for third in zeros:
                    self.assertEqual(sort(first + second + third), [0] + first + second + third)

    def test_zeros_in_one_part(self):
        plus, minus = PLUS_ZERO, MINUS_ZERO
        # The imaginary parts tell, as the real ones are the same.
        self.assertEqual(sort([minus, ONE, plus, LEAST]), [0, plus, LEAST, minus, ONE])
        self.assertEqual(sort([plus, ONE, minus, LEAST]), [0, minus, LEAST, plus, ONE])
        self.assertEqual(sort([plus, ONE, minus, ONE]), [0, plus, ONE, minus, ONE])
        self.assertEqual(sort([minus, ONE, plus, ONE]), [0, minus, ONE, plus, ONE])
        self.assertEqual(sort([ONE, plus, ONE, minus]), [0, ONE, plus, ONE, minus])
        self.assertEqual(sort([ONE, minus, ONE, plus]), [0, ONE, minus, ONE, plus])

    def test_zeros_between_the_least(self):
        least_below = LEAST | MINUS_ZERO
        for zero in (PLUS_ZERO, MINUS_ZERO):
            self.assertEqual(sort([LEAST, 0, zero, 0, least_below, 0]), [0, least_below, 0, zero, 0, LEAST, 0])
            self.assertEqual(sort([0, LEAST, 0, zero, 0, least_below]), [0, 0, least_below, 0, zero, 0, LEAST])

    def test_what_is_the_same_stays_in_order(self):
        # Zeros' signs tell one from another.
        plus, minus = PLUS_ZERO, MINUS_ZERO
        self.assertEqual(
            sort([ONE, minus, plus, ONE, ONE, plus, minus, ONE, ONE, minus]),
            [0, plus, ONE, minus, ONE, ONE, minus, ONE, plus, ONE, minus],
        )

    def test_all_the_same(self):
        self.assertEqual(sort(row(3, 4) * 64), [0] + row(3, 4) * 64)
        mixed = [PLUS_ZERO, MINUS_ZERO, MINUS_ZERO, MINUS_ZERO, MINUS_ZERO, PLUS_ZERO, PLUS_ZERO, PLUS_ZERO] * 16
        self.assertEqual(sort(mixed), [0] + mixed)

    def test_sizes_where_something_changes(self):
        parts = helper.either_sign(helper.SIZES)
        for x in parts:
            for y in parts:
                self.check([x, ONE, y, PLUS_ZERO])
                self.check([PLUS_ZERO, x, MINUS_ZERO, y])

    def test_subnormal_and_greatest_parts(self):
        below = GREATEST | MINUS_ZERO
        self.assertEqual(sort([GREATEST, 0, 2, 0, below, 0, 1, 0]), [0, below, 0, 1, 0, 2, 0, GREATEST, 0])
        self.assertEqual(sort([0, GREATEST, 0, GREATEST - 1]), [0, 0, GREATEST - 1, 0, GREATEST])
        self.assertEqual(sort([0x0010000000000000, 0, 0x000FFFFFFFFFFFFF, 0])[1], 0x000FFFFFFFFFFFFF)

    def test_parts_next_to_one_another(self):
        for size in (LEAST, ONE, 0x0010000000000000, GREATEST - 1, 0x7FE0000000000000):
            self.check([size + 1, 0, size, 0])
            self.check([(size + 1) | MINUS_ZERO, 0, size | MINUS_ZERO, 0])
            self.check([size | MINUS_ZERO, 0, (size + 1) | MINUS_ZERO, 0])

    def test_rows_with_many_that_are_the_same(self):
        parts = helper.Parts(81)
        choice = helper.either_sign([PLUS_ZERO, LEAST, ONE])
        for i in range(200):
            self.check([choice[parts.whole(len(choice))] for j in range(2 * (i % 65))])

    def test_parts_of_every_size(self):
        parts = helper.Parts(82)
        for length in range(65):
            self.check(parts.row(2 * length, 0, 2046))
            self.check(parts.row(2 * length, 1020, 1025))

    def test_longest_row(self):
        down = joined([row(i, 0) for i in reversed(range(4096))])
        up = joined([row(i, 0) for i in range(4096)])
        self.assertTrue(sort(down) == [0] + up)
        self.assertTrue(sort(row(1, 2) * 4097) == [-2])

    def test_not_finite_part(self):
        for part in NOT_FINITE:
            self.assertEqual(sort([part] + row(2, 1, 0)), [-2])
            self.assertEqual(sort(row(2, 1, 0) + [part]), [-2])
            self.assertEqual(sort([part, part]), [-2])
