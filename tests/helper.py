"""What the tests share: doubles by name, and the answers as the machine's own doubles give them."""

import math
import struct

PLUS_ZERO = 0x0000000000000000
MINUS_ZERO = 0x8000000000000000
LEAST = 0x0000000000000001
GREATEST = 0x7FEFFFFFFFFFFFFF

NOT_FINITE = [
    0x7FF0000000000000,  # infinity
    0xFFF0000000000000,
    0x7FF8000000000000,  # quiet NaNs
    0xFFF8000000000000,
    0x7FF0000000000001,  # signalling NaNs
    0xFFF0000000000001,
    0x7FFFFFFFFFFFFFFF,
    0xFFFFFFFFFFFFFFFF,
    0x7FF4000000000123,
]

FLOAT_MINUS_ZERO = 0x80000000
GREATEST_FLOAT = 0x7F7FFFFF

NOT_FINITE_FLOATS = [
    0x7F800000,  # infinity
    0xFF800000,
    0x7FC00000,  # quiet NaNs
    0xFFC00000,
    0x7F800001,  # signalling NaNs
    0xFF800001,
    0x7FFFFFFF,
    0xFFFFFFFF,
    0x7FA00123,
]

# Sizes at which something changes: zeros, subnormals, ties, squares that vanish or overflow.
SIZES = [
    0x0000000000000000,
    0x0000000000000001,
    0x0000000000000003,
    0x000FFFFFFFFFFFFF,
    0x0010000000000000,
    0x0010000000000001,
    0x1E50000000000000,  # 2 to the power of -538, its square rounds to 0
    0x1E60000000000000,  # 2 to the power of -537, its square is the least double
    0x3FD5555555555555,
    0x3FE0000000000000,
    0x3FF0000000000000,
    0x3FF0000000000001,
    0x3FF8000000000000,
    0x4340000000000000,  # 2 to the power of 53
    0x5FF0000000000000,  # 2 to the power of 512, its square overflows
    0x7FE0000000000000,
    0x7FEFFFFFFFFFFFFF,
]


def bits(x):
    return struct.unpack("<Q", struct.pack("<d", x))[0]


def double(part):
    return struct.unpack("<d", struct.pack("<Q", part))[0]


def float_bits(x):
    return struct.unpack("<I", struct.pack("<f", x))[0]


def row(*xs):
    return [bits(float(x)) for x in xs]


def either_sign(sizes):
    return [sign | size for size in sizes for sign in (PLUS_ZERO, MINUS_ZERO)]


class Refused(Exception):
    """-3"""


class ZeroColumn(Exception):
    """-1"""


def checked(x):
    if not math.isfinite(x):
        raise Refused()
    return x


def quotient_of_parts(x, y):
    if y == 0:
        raise Refused()
    return checked(x / y)


def machine_plus(x, y):
    return checked(x[0] + y[0]), checked(x[1] + y[1])


def machine_minus(x, y):
    return checked(x[0] - y[0]), checked(x[1] - y[1])


def machine_times(x, y):
    (p, q), (r, s) = x, y
    return checked(checked(p * r) - checked(q * s)), checked(checked(p * s) + checked(q * r))


def machine_by(x, y):
    (p, q), (r, s) = x, y
    m = checked(checked(r * r) + checked(s * s))
    real = quotient_of_parts(checked(checked(p * r) + checked(q * s)), m)
    imaginary = quotient_of_parts(checked(checked(q * r) - checked(p * s)), m)
    return real, imaginary


def machine_numbers(parts):
    return [(double(parts[i]), double(parts[i + 1])) for i in range(0, len(parts), 2)]


def expected(compute, *rows):
    """The whole answer, `compute` making numbers of the machine's doubles of such numbers."""
    if not all(math.isfinite(double(part)) for parts in rows for part in parts):
        return [-2]
    try:
        numbers = compute(*[machine_numbers(parts) for parts in rows])
    except Refused:
        return [-3]
    except ZeroColumn:
        return [-1]
    return [0] + [bits(x) for number in numbers for x in number]


def machine_product(a, b):
    return [machine_times(x, y) for x, y in zip(a, b)]


def machine_quotient(a, b):
    return [machine_by(x, y) for x, y in zip(a, b)]


def machine_dot(a, b):
    s = (0.0, 0.0)
    for x, (r, t) in zip(a, b):
        s = machine_plus(s, machine_times(x, (r, -t)))
    return [s]


def machine_value(x, c):
    y = c[-1]
    for term in reversed(c[:-1]):
        y = machine_plus(machine_times(y, x[0]), term)
    return [y]


def machine_transform(a, w):
    """Of 1, 2, 4 .. numbers. The halves are those at even and at odd places: so the bits turn round."""
    if len(a) == 1:
        return a
    evens = machine_transform(a[0::2], w[0::2])
    odds = machine_transform(a[1::2], w[0::2])
    turned = [machine_times(x, y) for x, y in zip(w, odds)]
    return [machine_plus(u, t) for u, t in zip(evens, turned)] + [machine_minus(u, t) for u, t in zip(evens, turned)]


def machine_roots(c, z):
    for i in range(len(z)):
        d = c[-1]
        for other in z[:i] + z[i + 1:]:
            d = machine_times(d, machine_minus(z[i], other))
        v = machine_value([z[i]], c)[0]
        z = z[:i] + [machine_minus(z[i], machine_by(v, d))] + z[i + 1:]
    return z


def machine_size(x):
    return checked(checked(x[0] * x[0]) + checked(x[1] * x[1]))


def machine_solve(a, b):
    n = len(b)
    a = [a[i * n:i * n + n] for i in range(n)]
    b = list(b)
    for k in range(n):
        sizes = [machine_size(a[i][k]) for i in range(k, n)]
        if max(sizes) == 0:
            raise ZeroColumn()
        taken = k + sizes.index(max(sizes))
        a[k], a[taken] = a[taken], a[k]
        b[k], b[taken] = b[taken], b[k]
        for i in range(k + 1, n):
            f = machine_by(a[i][k], a[k][k])
            for j in range(k + 1, n):
                a[i][j] = machine_minus(a[i][j], machine_times(f, a[k][j]))
            b[i] = machine_minus(b[i], machine_times(f, b[k]))
    x = {}
    for i in reversed(range(n)):
        s = b[i]
        for j in range(i + 1, n):
            s = machine_minus(s, machine_times(a[i][j], x[j]))
        x[i] = machine_by(s, a[i][i])
    return [x[i] for i in range(n)]


class Parts:
    """Finite parts in a fixed order that follows no plan (a linear congruential generator)."""

    def __init__(self, seed):
        self.state = seed

    def whole(self, below):
        self.state = (self.state * 6364136223846793005 + 1442695040888963407) % 2 ** 64
        return (self.state >> 20) % below

    def part(self, least_exponent, greatest_exponent):
        exponent = least_exponent + self.whole(greatest_exponent - least_exponent + 1)
        fraction = self.whole(2 ** 26) << 26 | self.whole(2 ** 26)
        if self.whole(2):
            # Short fractions make ties and exact results frequent.
            fraction = fraction >> 40 << 40
        return self.whole(2) << 63 | exponent << 52 | fraction

    def row(self, length, least_exponent, greatest_exponent):
        return [self.part(least_exponent, greatest_exponent) for i in range(length)]
