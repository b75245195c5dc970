import math
import unittest

from complexrows import doubles
from complexrows.rounding import NoFiniteResult
from tests import helper
from tests.helper import GREATEST, LEAST, MINUS_ZERO, NOT_FINITE, PLUS_ZERO, bits, double

OPERATIONS = [
    (doubles.add, lambda x, y: x + y),
    (doubles.subtract, lambda x, y: x - y),
    (doubles.multiply, lambda x, y: x * y),
    (doubles.divide, helper.quotient_of_parts),
]


def answer(operation, x, y):
    try:
        return operation(x, y)
    except NoFiniteResult:
        return None


def machine_answer(operation, x, y):
    try:
        return bits(helper.checked(operation(double(x), double(y))))
    except helper.Refused:
        return None


class DoublesTest(unittest.TestCase):
    def check(self, x, y):
        for own, machine in OPERATIONS:
            self.assertEqual(answer(own, x, y), machine_answer(machine, x, y), (own.__name__, hex(x), hex(y)))

    def test_sizes_where_something_changes(self):
        parts = helper.either_sign(helper.SIZES)
        for x in parts:
            for y in parts:
                self.check(x, y)

    def test_parts_of_every_size(self):
        parts = helper.Parts(1)
        for i in range(3000):
            self.check(parts.part(0, 2046), parts.part(0, 2046))

    def test_parts_of_near_sizes(self):
        parts = helper.Parts(2)
        for i in range(6000):
            self.check(parts.part(1000, 1060), parts.part(1000, 1060))

    def test_results_that_are_subnormal(self):
        parts = helper.Parts(3)
        for i in range(3000):
            x = parts.part(0, 60)
            self.check(x, parts.part(0, 60))
            self.check(x, parts.part(960, 1090))

    def test_results_about_the_greatest(self):
        parts = helper.Parts(4)
        for i in range(3000):
            x = parts.part(2040, 2046)
            self.check(x, parts.part(2040, 2046))
            self.check(x, parts.part(1015, 1030))

    def test_greatest_plus_half_a_last_place_is_no_finite_double(self):
        half = bits(math.ldexp(1.0, 970))
        self.assertIsNone(answer(doubles.add, GREATEST, half))
        self.assertEqual(doubles.add(GREATEST, half - 1), GREATEST)

    def test_half_the_least_goes_to_the_even_zero(self):
        self.assertEqual(doubles.multiply(LEAST, bits(0.5)), PLUS_ZERO)
        self.assertEqual(doubles.multiply(LEAST, bits(-0.5)), MINUS_ZERO)
        self.assertEqual(doubles.multiply(LEAST, bits(0.5) + 1), LEAST)
        self.assertEqual(doubles.multiply(3, bits(0.5)), 2)
        self.assertEqual(doubles.divide(LEAST, bits(2.0)), PLUS_ZERO)

    def test_overflow_far_beyond_the_exponents(self):
        self.assertIsNone(answer(doubles.multiply, GREATEST, GREATEST))
        self.assertIsNone(answer(doubles.divide, GREATEST, LEAST))

    def test_finite(self):
        for part in NOT_FINITE:
            self.assertFalse(doubles.is_finite(part))
        for part in helper.either_sign(helper.SIZES):
            self.assertTrue(doubles.is_finite(part))
