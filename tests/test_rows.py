import unittest

from complexrows.rows import product, quotient
from tests import helper
from tests.helper import MINUS_ZERO, NOT_FINITE, PLUS_ZERO, row

CALLS = [(product, helper.machine_product), (quotient, helper.machine_quotient)]

# A pair of numbers for each call that gives -3.
OVERFLOWING = {product: (row(1e200, 0), row(1e200, 0)), quotient: (row(1, 1), row(0, 0))}


class BothCallsTest(unittest.TestCase):
    def check(self, a, b):
        for call, one in CALLS:
            answer = call(a, b)
            # Not assertEqual: the difference of two long lists takes it minutes to tell.
            self.assertTrue(answer == helper.expected(one, a, b), (call.__name__, a, b, answer))

    def test_empty_rows(self):
        self.assertEqual(product([], []), [0])
        self.assertEqual(quotient([], []), [0])

    def test_parameter_names(self):
        self.assertEqual(product(a=row(1, 2), b=row(3, 4)), [0] + row(-5, 10))
        self.assertEqual(quotient(a=row(-5, 10), b=row(3, 4)), [0] + row(1, 2))

    def test_long_rows(self):
        parts = helper.Parts(11)
        for length in (2, 4, 62, 126, 128):
            self.check(parts.row(length, 1000, 1050), parts.row(length, 1000, 1050))

    def test_longest_row(self):
        for call, one in CALLS:
            answer = call(row(3, 4) * 4096, row(1, 0) * 4096)
            self.assertTrue(answer == [0] + row(3, 4) * 4096, call.__name__)
            self.assertTrue(call(row(3, 4) * 4097, row(1, 0) * 4097) == [-2], call.__name__)

    def test_too_long_comes_ahead_of_overflow(self):
        for call, one in CALLS:
            a, b = OVERFLOWING[call]
            self.assertTrue(call(a * 4097, b * 4097) == [-2], call.__name__)

    def test_parts_of_near_sizes(self):
        parts = helper.Parts(12)
        for i in range(2000):
            self.check(parts.row(2, 1010, 1036), parts.row(2, 1010, 1036))

    def test_parts_of_every_size(self):
        parts = helper.Parts(13)
        for i in range(2000):
            self.check(parts.row(2, 0, 2046), parts.row(2, 0, 2046))

    def test_small_parts(self):
        parts = helper.Parts(14)
        for i in range(2000):
            self.check(parts.row(2, 0, 540), parts.row(2, 440, 600))

    def test_zeros_and_ones_of_either_sign(self):
        parts = helper.either_sign([PLUS_ZERO, helper.bits(1.0)])
        for p in parts:
            for q in parts:
                for r in parts:
                    for s in parts:
                        self.check([p, q], [r, s])

    def test_sizes_where_something_changes(self):
        sizes = helper.SIZES
        for i, p in enumerate(sizes):
            for q in sizes:
                for j, r in enumerate(sizes):
                    # Signs by the places, so that every mix of them occurs.
                    sign = MINUS_ZERO if (i + j) % 2 else PLUS_ZERO
                    self.check([p, q | sign], [r, sizes[(i + j) % len(sizes)]])

    def test_not_finite_part_at_any_place(self):
        for call, one in CALLS:
            for part in NOT_FINITE:
                for place in range(12):
                    parts = row(1, 2, 3, 4, 5, 6, 7, 8, 9, 10, 11, 12)
                    parts[place] = part
                    self.assertEqual(call(parts[:6], parts[6:]), [-2], (call.__name__, hex(part), place))

    def test_not_finite_part_comes_ahead_of_overflow(self):
        for call, one in CALLS:
            x, y = OVERFLOWING[call]
            self.assertEqual(call(x, y), [-3])
            for part in NOT_FINITE:
                for bad in ([part, PLUS_ZERO], [PLUS_ZERO, part]):
                    self.assertEqual(call(x + bad, y + row(1, 1)), [-2])
                    self.assertEqual(call(x + row(1, 1), y + bad), [-2])
                    self.assertEqual(call(bad + x, row(1, 1) + y), [-2])
                    self.assertEqual(call(row(1, 1) + x, bad + y), [-2])

    def test_not_finite_part_beside_a_zero_divisor(self):
        self.assertEqual(quotient([NOT_FINITE[0], PLUS_ZERO], row(0, 0)), [-2])
        self.assertEqual(quotient(row(1, 1), [PLUS_ZERO, NOT_FINITE[2]]), [-2])

    def test_refusal_is_alone_wherever_it_arises(self):
        for call, one in CALLS:
            x, y = OVERFLOWING[call]
            for before in range(3):
                for behind in range(3):
                    a = row(1, 2) * before + x + row(3, 4) * behind
                    b = row(5, 6) * before + y + row(7, 8) * behind
                    self.assertEqual(call(a, b), [-3])

    def test_rows_handed_in_are_not_changed(self):
        rows = [
            (row(1, 2, 3, 4), row(5, 6, 7, 8)),
            (row(1, 2, 1e200, 1e200), row(5, 6, 1e200, 0)),
            (row(1, 2, 3, 4), row(5, 6, 7, float("inf"))),
        ]
        for call, one in CALLS:
            for a, b in rows:
                a_before, b_before = list(a), list(b)
                call(a, b)
                self.assertEqual((a, b), (a_before, b_before))

    def test_same_list_for_both(self):
        a = row(1, 2, 3, 4)
        self.assertEqual(product(a, a), [0] + row(-3, 4, -7, 24))
        self.assertEqual(quotient(a, a), [0] + row(1, 0, 1, 0))
        self.assertEqual(a, row(1, 2, 3, 4))

    def test_second_call_answers_as_the_first(self):
        a, b = row(1, 2, 3, 4), row(5, 6, 7, 8)
        for call, one in CALLS:
            first = call(a, b)
            kept = list(first)
            x, y = OVERFLOWING[call]
            self.assertEqual(call(x, y), [-3])
            self.assertEqual(call([NOT_FINITE[0], 0], b[:2]), [-2])
            first.append(99)
            self.assertEqual(call(a, b), kept)
            self.assertEqual(call([], []), [0])

    def test_answer_is_a_list_of_whole_numbers(self):
        for call, one in CALLS:
            for answer in (call(row(1, 2), row(3, 4)), call([], []), call(*OVERFLOWING[call])):
                self.assertIs(type(answer), list)
                for number in answer:
                    self.assertIs(type(number), int)
