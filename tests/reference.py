"""What the document says of halves, written a second time for the tests alone.

It shares no way of working with the package: a half is read by struct, the
exact result is a Fraction, and the nearest half is looked up among all halves.
"""

import bisect
import math
import struct
from fractions import Fraction

INF = 0x7C00
NEG_INF = 0xFC00
NAN = 32256
NEG_ZERO = 0x8000
ONE = 0x3C00
NAN_FORMS = list(range(0x7C01, 0x8000)) + list(range(0xFC01, 0x10000))


def value(bits):
    return struct.unpack("<e", struct.pack("<H", bits))[0]


FINITE = [Fraction(value(bits)) for bits in range(INF)]


def nearest(exact):
    """The bits of the half nearest to a Fraction."""
    sign = 0x8000 if exact < 0 else 0
    size = abs(exact)
    if size >= 65520:
        return sign | INF
    above = bisect.bisect_left(FINITE, size)
    if above == len(FINITE):
        return sign | (above - 1)
    below = above if FINITE[above] == size else above - 1
    up = FINITE[above] - size
    down = size - FINITE[below]
    bits = below if down < up or (down == up and below % 2 == 0) else above
    return 0 if bits == 0 else sign | bits


def half(number):
    """The bits of a number that is a half; the tests write halves this way."""
    bits = nearest(Fraction(number))
    if Fraction(value(bits)) != Fraction(number):
        raise ValueError(f"{number} is no half")
    return bits


def halves(*numbers):
    return [half(number) for number in numbers]


def fma(x, y, z):
    a, b, c = value(x), value(y), value(z)
    if math.isfinite(a) and math.isfinite(b) and math.isfinite(c):
        return nearest(Fraction(a) * Fraction(b) + Fraction(c))
    result = a * b + c
    if math.isnan(result):
        return NAN
    return INF if result > 0 else NEG_INF


def add(x, y):
    return fma(x, ONE, y)


def neg(x):
    return x ^ 0x8000


def added(how, x, y, s):
    a, b = x
    c, d = y[0], neg(y[1]) if how == 1 else y[1]
    u, v = s
    return fma(neg(b), d, fma(a, c, u)), fma(a, d, fma(b, c, v))


def times(how, x, y):
    a, b = x
    c, d = y[0], neg(y[1]) if how == 1 else y[1]
    return fma(neg(b), d, fma(a, c, 0)), fma(a, d, fma(b, c, 0))


def pairs(row):
    return list(zip(row[0::2], row[1::2]))


def flat(row):
    return [number for pair in row for number in pair]


def rr_times(how, x, y):
    return [0] + flat(times(how, p, q) for p, q in zip(pairs(x), pairs(y)))


def rr_more(how, x, y, s):
    return [0] + flat(added(how, p, q, r) for p, q, r in zip(pairs(x), pairs(y), pairs(s)))


def dot_sums(how, x, y):
    xs, ys = pairs(x), pairs(y)
    sums = []
    for i in range(16):
        s = (0, 0)
        for j in range(i, len(xs), 16):
            s = added(how, xs[j], ys[j], s)
        sums.append(s)
    return sums


def rr_dot(how, x, y):
    sums = dot_sums(how, x, y)
    for count in (8, 4, 2, 1):
        for i in range(count):
            u, v = sums[i], sums[i + count]
            sums[i] = (add(u[0], v[0]), add(u[1], v[1]))
    return [0] + list(sums[0])


def difference(answer, expected):
    """Where two rows differ first, or None; unittest's own comparison takes hours of two long ones."""
    if len(answer) != len(expected):
        return f"{len(answer)} numbers, not {len(expected)}"
    for place, (got, wanted) in enumerate(zip(answer, expected)):
        if got != wanted:
            return f"number {place} is {got}, not {wanted}"
    return None


def row_of_any(n, seed):
    """n complex halves among all 65536 forms, the same ones each time."""
    return [bits & 0xFFFF for bits in walk(2 * n, seed)]


def row_of_middling(n, seed):
    """n complex halves of magnitudes from 2^-4 to 16: sums of them stay finite, but round."""
    return [(bits & 0x83FF) + 0x2C00 + 0x400 * ((bits >> 10 & 31) % 8) for bits in walk(2 * n, seed)]


def walk(count, seed):
    state = seed
    for _ in range(count):
        state = (state * 6364136223846793005 + 1442695040888963407) % 2**64
        yield state >> 40
