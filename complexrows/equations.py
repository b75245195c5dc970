"""As many equations as unknowns, solved by taking the greatest number of a column from the others."""

from complexrows.arithmetic import divided_by, minus, squared_size, times


class NoPivot(ArithmeticError):
    pass


# Each with its number of b as a last column, as all that's done to a row is done to b too.
def joined_rows(a, b):
    n = len(b)
    return [a[i * n:(i + 1) * n] + [b[i]] for i in range(n)]


def pivot_row(rows, k):
    found = k
    greatest = squared_size(rows[k][k])
    for i in range(k + 1, len(rows)):
        size = squared_size(rows[i][k])
        # Bits stand in the order of the doubles, as no square is negative.
        if size > greatest:
            found = i
            greatest = size
    if greatest == 0:
        raise NoPivot()
    return found


def swap(rows, i, k):
    kept = rows[i]
    rows[i] = rows[k]
    rows[k] = kept


# What is in column k below row k isn't made 0: it is not looked at again.
def eliminate(rows, k):
    upper = rows[k]
    for i in range(k + 1, len(rows)):
        lower = rows[i]
        f = divided_by(lower[k], upper[k])
        for j in range(k + 1, len(lower)):
            lower[j] = minus(lower[j], times(f, upper[j]))


def solve_upwards(rows):
    n = len(rows)
    x = [row[n] for row in rows]
    for i in range(n - 1, -1, -1):
        s = x[i]
        for j in range(i + 1, n):
            s = minus(s, times(rows[i][j], x[j]))
        x[i] = divided_by(s, rows[i][i])
    return x


def solution(a, b):
    rows = joined_rows(a, b)
    for k in range(len(rows)):
        swap(rows, pivot_row(rows, k), k)
        eliminate(rows, k)
    return solve_upwards(rows)
