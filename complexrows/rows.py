"""The calls on rows of complex numbers.

A row is a list of parts' bits, two for each number, the real part's first.
"""

from complexrows.arithmetic import conjugate, divided_by, plus, times, turned
from complexrows.doubles import is_finite, signed_units
from complexrows.equations import NoPivot, solution
from complexrows.floats import is_finite_float, narrowed, widened
from complexrows.polynomials import better_guesses, value_at
from complexrows.rounding import NoFiniteResult
from complexrows.transforms import transformed

MOST_NUMBERS = 4096
GREATEST_TRANSFORM = 10
MOST_ROOTS = 16
MOST_EQUATIONS = 8


def numbers_of(row):
    return [row[i:i + 2] for i in range(0, len(row), 2)]


def parts_of(numbers):
    parts = []
    for number in numbers:
        parts.extend(number)
    return parts


def all_finite(row):
    return all([is_finite(part) for part in row])


# Compute answers with numbers. It is called last, as -2 comes ahead of the other refusals.
def answer(in_range, rows, compute):
    if not in_range or not all([all_finite(row) for row in rows]):
        return [-2]
    try:
        return [0] + parts_of(compute())
    except NoFiniteResult:
        return [-3]
    except NoPivot:
        return [-1]


def short_enough(row):
    return len(row) // 2 <= MOST_NUMBERS


def one_by_one(operation, a, b):
    return [operation(x, y) for x, y in zip(numbers_of(a), numbers_of(b))]


def product(a, b):
    return answer(short_enough(a), [a, b], lambda: one_by_one(times, a, b))


def quotient(a, b):
    return answer(short_enough(a), [a, b], lambda: one_by_one(divided_by, a, b))


def turn(k, a):
    return answer(short_enough(a), [a], lambda: [turned(x, k % 4) for x in numbers_of(a)])


def sum_of_products(a, b):
    total = [0, 0]
    for x, y in zip(numbers_of(a), numbers_of(b)):
        total = plus(total, times(x, conjugate(y)))
    return total


def dot(a, b):
    return answer(short_enough(a), [a, b], lambda: [sum_of_products(a, b)])


def value(x, c):
    in_range = len(c) > 0 and short_enough(c)
    return answer(in_range, [x, c], lambda: [value_at(x, numbers_of(c))])


def transform(k, a, w):
    in_range = 0 <= k <= GREATEST_TRANSFORM
    return answer(in_range, [a, w], lambda: transformed(k, numbers_of(a), numbers_of(w)))


def roots(c, z):
    in_range = 1 <= len(z) // 2 <= MOST_ROOTS
    return answer(in_range, [c, z], lambda: better_guesses(numbers_of(c), numbers_of(z)))


def solve(a, b):
    in_range = 1 <= len(b) // 2 <= MOST_EQUATIONS
    return answer(in_range, [a, b], lambda: solution(numbers_of(a), numbers_of(b)))


# In units a zero has no sign, so that zeros are the same.
def place_in_order(x):
    return (signed_units(x[0]), signed_units(x[1]))


def sort(a):
    return answer(short_enough(a), [a], lambda: sorted(numbers_of(a), key=place_in_order))


def narrow(a):
    return answer(short_enough(a), [a], lambda: [[narrowed(x[0]), narrowed(x[1])] for x in numbers_of(a)])


def widen(a):
    if not short_enough(a) or not all([is_finite_float(part) for part in a]):
        return [-2]
    return [0] + [widened(part) for part in a]
