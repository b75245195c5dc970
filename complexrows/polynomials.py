"""Polynomials, each a list of its terms' numbers, that of the lowest power first."""

from complexrows.arithmetic import plus, times


def value_at(x, terms):
    y = terms[-1]
    for i in range(len(terms) - 2, -1, -1):
        y = plus(times(y, x), terms[i])
    return y
