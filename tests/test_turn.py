import unittest

from complexrows.rows import turn
from tests import helper
from tests.helper import GREATEST, LEAST, MINUS_ZERO, NOT_FINITE, PLUS_ZERO, row

FEWEST = -2147483648
MOST = 2147483647


def quarter_turns(k, parts):
    """A quarter turn, k modulo 4 times."""
    turned = list(parts)
    for i in range(k % 4):
        turned = [
            turned[place + 1] ^ MINUS_ZERO if place % 2 == 0 else turned[place - 1]
            for place in range(len(turned))
        ]
    return turned


class TurnTest(unittest.TestCase):
    def test_each_quarter(self):
        self.assertEqual(turn(0, row(1, 2, -3, 4.5)), [0] + row(1, 2, -3, 4.5))
        self.assertEqual(turn(1, row(1, 2, -3, 4.5)), [0] + row(-2, 1, -4.5, -3))
        self.assertEqual(turn(2, row(1, 2, -3, 4.5)), [0] + row(-1, -2, 3, -4.5))
        self.assertEqual(turn(3, row(1, 2, -3, 4.5)), [0] + row(2, -1, 4.5, 3))

    def test_bits(self):
        self.assertEqual(turn(1, [0x3FF0000000000000, 0x4000000000000000]), [0, 0xC000000000000000, 0x3FF0000000000000])

    def test_negative_k(self):
        self.assertEqual(turn(-1, row(1, 2)), [0] + row(2, -1))
        self.assertEqual(turn(-2, row(1, 2)), [0] + row(-1, -2))
        self.assertEqual(turn(-3, row(1, 2)), [0] + row(-2, 1))
        self.assertEqual(turn(-4, row(1, 2)), [0] + row(1, 2))
        self.assertEqual(turn(-5, row(1, 2)), [0] + row(2, -1))

    def test_k_at_the_ends_of_its_range(self):
        self.assertEqual(turn(FEWEST, row(1, 2)), [0] + row(1, 2))
        self.assertEqual(turn(FEWEST + 1, row(1, 2)), [0] + row(-2, 1))
        self.assertEqual(turn(MOST, row(1, 2)), [0] + row(2, -1))
        self.assertEqual(turn(MOST - 1, row(1, 2)), [0] + row(-1, -2))

    def test_empty_row(self):
        for k in (0, 1, 2, 3, -1, FEWEST, MOST):
            self.assertEqual(turn(k, []), [0])

    def test_zero_signs_are_turned(self):
        plus, minus = PLUS_ZERO, MINUS_ZERO
        self.assertEqual(turn(0, [plus, minus]), [0, plus, minus])
        self.assertEqual(turn(1, [plus, plus]), [0, minus, plus])
        self.assertEqual(turn(1, [minus, minus]), [0, plus, minus])
        self.assertEqual(turn(2, [plus, plus]), [0, minus, minus])
        self.assertEqual(turn(2, [minus, plus]), [0, plus, minus])
        self.assertEqual(turn(3, [plus, plus]), [0, plus, minus])
        self.assertEqual(turn(3, [minus, minus]), [0, minus, plus])

    def test_nothing_else_of_a_part_changes(self):
        parts = helper.either_sign(helper.SIZES)
        for k in range(-8, 9):
            for p in parts:
                for q in parts:
                    self.assertEqual(turn(k, [p, q]), [0] + quarter_turns(k, [p, q]))

    def test_subnormal_and_greatest_parts(self):
        least, greatest = LEAST | MINUS_ZERO, GREATEST | MINUS_ZERO
        self.assertEqual(turn(1, [LEAST, GREATEST]), [0, greatest, LEAST])
        self.assertEqual(turn(2, [LEAST, GREATEST]), [0, least, greatest])
        self.assertEqual(turn(3, [LEAST, GREATEST]), [0, GREATEST, least])

    def test_long_rows(self):
        parts = helper.Parts(21)
        for length in (2, 4, 62, 126, 128):
            a = parts.row(length, 0, 2046)
            for k in range(-3, 4):
                self.assertTrue(turn(k, a) == [0] + quarter_turns(k, a), (k, a))

    def test_longest_row(self):
        for k in range(4):
            self.assertTrue(turn(k, row(1, 2) * 4096) == [0] + quarter_turns(k, row(1, 2)) * 4096, k)
            self.assertTrue(turn(k, row(1, 2) * 4097) == [-2], k)

    def test_not_finite_part(self):
        for k in (-1, 0, 1, 2, 3, FEWEST, MOST):
            for part in NOT_FINITE:
                self.assertEqual(turn(k, [part] + row(1, 2, 3)), [-2])
                self.assertEqual(turn(k, row(1, 2, 3) + [part]), [-2])
