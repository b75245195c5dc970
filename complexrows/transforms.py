"""The transform of 2 to the power of k numbers, in k stages over ever greater blocks."""

from complexrows.arithmetic import minus, plus, times


def with_bits_reversed(i, k):
    turned_round = 0
    for place in range(k):
        turned_round = turned_round * 2 + (i >> place) % 2
    return turned_round


# The block is that of 2 times half numbers from first on.
def combine_halves(y, first, half, w):
    # W is made for the greatest block: the smaller one is, the further apart are those it takes.
    stride = len(y) // (2 * half)
    for j in range(half):
        upper = first + j
        lower = upper + half
        t = times(w[j * stride], y[lower])
        u = y[upper]
        y[upper] = plus(u, t)
        y[lower] = minus(u, t)


def transformed(k, a, w):
    y = [a[with_bits_reversed(i, k)] for i in range(len(a))]
    for stage in range(k):
        half = 1 << stage
        for first in range(0, len(y), 2 * half):
            combine_halves(y, first, half, w)
    return y
