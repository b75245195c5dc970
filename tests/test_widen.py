import struct
import unittest

from complexrows.rows import narrow, widen
from tests import helper
from tests.helper import FLOAT_MINUS_ZERO, GREATEST_FLOAT, MINUS_ZERO, NOT_FINITE_FLOATS, PLUS_ZERO, bits, row

FLOAT_ONE = 0x3F800000
FLOAT_TWO = 0x40000000


def machine_double(float_part):
    return bits(struct.unpack("<f", struct.pack("<I", float_part))[0])


class WidenTest(unittest.TestCase):
    def check(self, a):
        answer = widen(a)
        self.assertTrue(answer == [0] + [machine_double(part) for part in a], ([hex(part) for part in a], answer))

    def check_size(self, float_part, x):
        """Of either sign, and in either part."""
        below = float_part | FLOAT_MINUS_ZERO
        self.assertEqual(widen([float_part, FLOAT_ONE]), [0] + row(x, 1))
        self.assertEqual(widen([FLOAT_ONE, float_part]), [0] + row(1, x))
        self.assertEqual(widen([below, FLOAT_ONE]), [0] + row(-x, 1))
        self.assertEqual(widen([FLOAT_ONE, below]), [0] + row(1, -x))

    def test_ordinary_rows(self):
        self.assertEqual(widen([0x3F800000, 0xC0000000, 0x3F000000, 0x40490000]), [0] + row(1, -2, 0.5, 3.140625))
        # The float nearest to 0.1 is not the double nearest to it.
        self.assertEqual(widen([0x3DCCCCCD, FLOAT_TWO]), [0, 0x3FB99999A0000000, 0x4000000000000000])

    def test_empty_row(self):
        self.assertEqual(widen([]), [0])

    def test_zeros_keep_their_signs(self):
        self.assertEqual(
            widen([0, FLOAT_MINUS_ZERO, FLOAT_MINUS_ZERO, 0]), [0, PLUS_ZERO, MINUS_ZERO, MINUS_ZERO, PLUS_ZERO]
        )

    def test_subnormal_floats(self):
        self.check_size(0x00000001, 2.0 ** -149)
        self.check_size(0x00000003, 3 * 2.0 ** -149)
        self.check_size(0x00400000, 2.0 ** -127)
        self.check_size(0x007FFFFF, 2.0 ** -126 - 2.0 ** -149)

    def test_least_normal_and_greatest_float(self):
        self.check_size(0x00800000, 2.0 ** -126)
        self.check_size(0x00800001, 2.0 ** -126 + 2.0 ** -149)
        self.check_size(GREATEST_FLOAT, 2.0 ** 128 - 2.0 ** 104)
        self.check_size(0x7F000000, 2.0 ** 127)

    def test_every_exponent(self):
        for exponent in range(255):
            for fraction in (0, 1, 2, 3, 0x2AAAAA, 0x400000, 0x555555, 0x7FFFFE, 0x7FFFFF):
                part = exponent << 23 | fraction
                self.check([part, part | FLOAT_MINUS_ZERO])

    def test_every_bit_of_a_subnormal(self):
        for place in range(23):
            self.check([1 << place, (2 << place) - 1])

    def test_floats_of_many_sizes(self):
        parts = helper.Parts(101)
        for i in range(2000):
            self.check([parts.whole(2) << 31 | parts.whole(GREATEST_FLOAT + 1) for j in range(2)])

    def test_long_rows(self):
        parts = helper.Parts(102)
        for length in (1, 2, 31, 63, 64):
            self.check([parts.whole(GREATEST_FLOAT + 1) for j in range(2 * length)])

    def test_longest_row(self):
        self.assertTrue(widen([FLOAT_ONE, FLOAT_TWO] * 4096) == [0] + row(1, 2) * 4096)
        self.assertTrue(widen([FLOAT_ONE, FLOAT_TWO] * 4097) == [-2])

    def test_not_finite_float(self):
        for part in NOT_FINITE_FLOATS:
            self.assertEqual(widen([part, 0]), [-2])
            self.assertEqual(widen([0, part]), [-2])
            self.assertEqual(widen([part, FLOAT_ONE, FLOAT_TWO, 0]), [-2])
            self.assertEqual(widen([FLOAT_ONE, FLOAT_TWO, 0, part]), [-2])

    def test_narrow_widen_and_narrow_again(self):
        parts = helper.Parts(103)
        for i in range(300):
            narrowed = narrow(parts.row(6, 1023 - 155, 1023 + 126))
            self.assertEqual(narrowed[0], 0)
            self.assertEqual(narrow(widen(narrowed[1:])[1:]), narrowed)

    def test_each_float_is_the_same_after_widen_and_narrow(self):
        for exponent in range(255):
            for fraction in (0, 1, 0x2AAAAA, 0x400000, 0x7FFFFF):
                a = [exponent << 23 | fraction, FLOAT_MINUS_ZERO | exponent << 23 | fraction]
                self.assertEqual(narrow(widen(a)[1:]), [0] + a)
