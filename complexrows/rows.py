"""The calls on rows of complex numbers.

A row is a list of parts' bits, two for each number, the real part's first.
"""

from complexrows.doubles import NoFiniteResult, add, divide, is_finite, multiply, subtract

MOST_NUMBERS = 4096


def all_finite(row):
    return all([is_finite(part) for part in row])


def times(x, y):
    p = x[0]
    q = x[1]
    r = y[0]
    s = y[1]
    real = subtract(multiply(p, r), multiply(q, s))
    imaginary = add(multiply(p, s), multiply(q, r))
    return [real, imaginary]


def divided_by(x, y):
    p = x[0]
    q = x[1]
    r = y[0]
    s = y[1]
    m = add(multiply(r, r), multiply(s, s))
    real = divide(add(multiply(p, r), multiply(q, s)), m)
    imaginary = divide(subtract(multiply(q, r), multiply(p, s)), m)
    return [real, imaginary]


def one_by_one(operation, a, b):
    # Both rows are looked through before anything is computed, as -2 comes ahead of -3.
    if len(a) // 2 > MOST_NUMBERS or not all_finite(a) or not all_finite(b):
        return [-2]
    answer = [0]
    try:
        for i in range(0, len(a), 2):
            answer.extend(operation(a[i:i + 2], b[i:i + 2]))
    except NoFiniteResult:
        return [-3]
    return answer


def product(a, b):
    return one_by_one(times, a, b)


def quotient(a, b):
    return one_by_one(divided_by, a, b)
