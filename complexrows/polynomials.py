"""Polynomials, each a list of its terms' numbers, that of the lowest power first."""

from complexrows.arithmetic import divided_by, minus, plus, times


def value_at(x, terms):
    y = terms[-1]
    for i in range(len(terms) - 2, -1, -1):
        y = plus(times(y, x), terms[i])
    return y


def distances_times(leading_term, guesses, i):
    d = leading_term
    for j in range(len(guesses)):
        if j != i:
            d = times(d, minus(guesses[i], guesses[j]))
    return d


# One round: each guess is made anew beside those that already are.
def better_guesses(terms, guesses):
    z = list(guesses)
    for i in range(len(z)):
        v = value_at(z[i], terms)
        d = distances_times(terms[-1], z, i)
        z[i] = minus(z[i], divided_by(v, d))
    return z
