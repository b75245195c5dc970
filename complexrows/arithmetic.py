"""Complex numbers, each a list of its two parts' bits, and the steps on one or two of them."""

from complexrows.doubles import add, divide, multiply, negative, subtract


def plus(x, y):
    return [add(x[0], y[0]), add(x[1], y[1])]


def minus(x, y):
    return [subtract(x[0], y[0]), subtract(x[1], y[1])]


def times(x, y):
    p = x[0]
    q = x[1]
    r = y[0]
    s = y[1]
    real = subtract(multiply(p, r), multiply(q, s))
    imaginary = add(multiply(p, s), multiply(q, r))
    return [real, imaginary]


def squared_size(x):
    return add(multiply(x[0], x[0]), multiply(x[1], x[1]))


def divided_by(x, y):
    p = x[0]
    q = x[1]
    r = y[0]
    s = y[1]
    m = squared_size(y)
    real = divide(add(multiply(p, r), multiply(q, s)), m)
    imaginary = divide(subtract(multiply(q, r), multiply(p, s)), m)
    return [real, imaginary]


def conjugate(x):
    return [x[0], negative(x[1])]


# By quarters of a full turn. Nothing is computed, as a product with i could change a zero's sign.
def turned(x, quarters):
    p = x[0]
    q = x[1]
    if quarters == 0:
        return [p, q]
    if quarters == 1:
        return [negative(q), p]
    if quarters == 2:
        return [negative(p), negative(q)]
    return [q, negative(p)]
