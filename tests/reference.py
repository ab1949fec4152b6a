"""What the document says of halves, written a second time for the tests alone.

It shares no way of working with the package: a half is read by struct, and the
half nearest to an exact result is looked up among all halves.
"""

import bisect
import math
import struct
from fractions import Fraction

INF = 0x7C00
NEG_INF = 0xFC00
NAN = 32256
NEG_ZERO = 0x8000
ONE = 0x3C00
NAN_FORMS = list(range(0x7C01, 0x8000)) + list(range(0xFC01, 0x10000))

# Rows (a, b, c, d, u, v, then the result): (a + b i) (c + d i) added to u + v i, where other ways differ.
TWO_STEPS = (
    (0x37EF, 0xC36F, 0x47F9, 0xBC7B, 0x3803, 0xB586, 0x34A3, 0xCFA3),
    (0xCB47, 0xC449, 0xB1A8, 0xB7A7, 0xB809, 0x4B05, 0x24D6, 0x4D71),
    (0xB456, 0x4517, 0xC70D, 0x328E, 0xB9C5, 0xC005, 0x30B3, 0xD0BF),
)


VALUES = [struct.unpack("<e", struct.pack("<H", bits))[0] for bits in range(65536)]
UNITS = [int(Fraction(number) * 2**24) if math.isfinite(number) else None for number in VALUES]
FINITE = [units * 2**24 for units in UNITS[:INF]]


def value(bits):
    return VALUES[bits]


def nearest(exact):
    """The bits of the half nearest to a Fraction."""
    return looked_up(Fraction(exact) * 2**48)


def looked_up(exact):
    """The same, of a number in units of 2^-48."""
    sign = 0x8000 if exact < 0 else 0
    size = abs(exact)
    if size >= 65520 * 2**48:
        return sign | INF
    above = bisect.bisect_left(FINITE, size)
    if above == len(FINITE):
        return sign | (above - 1)
    below = above if FINITE[above] == size else above - 1
    up = FINITE[above] - size
    down = size - FINITE[below]
    bits = below if down < up or (down == up and below % 2 == 0) else above
    return 0 if bits == 0 else sign | bits


def half(number):
    """The bits of a number that is a half; the tests write halves this way."""
    bits = nearest(Fraction(number))
    if Fraction(value(bits)) != Fraction(number):
        raise ValueError(f"{number} is no half")
    return bits


def halves(*numbers):
    return [half(number) for number in numbers]


def fma(x, y, z):
    if None not in (UNITS[x], UNITS[y], UNITS[z]):
        return looked_up(UNITS[x] * UNITS[y] + UNITS[z] * 2**24)
    result = value(x) * value(y) + value(z)
    if math.isnan(result):
        return NAN
    return INF if result > 0 else NEG_INF


def add(x, y):
    return fma(x, ONE, y)


def neg(x):
    return x ^ 0x8000


def added(how, x, y, s):
    a, b = x
    c, d = y[0], neg(y[1]) if how == 1 else y[1]
    u, v = s
    return fma(neg(b), d, fma(a, c, u)), fma(a, d, fma(b, c, v))


def times(how, x, y):
    a, b = x
    c, d = y[0], neg(y[1]) if how == 1 else y[1]
    return fma(neg(b), d, fma(a, c, 0)), fma(a, d, fma(b, c, 0))


def pairs(row):
    return list(zip(row[0::2], row[1::2]))


def flat(row):
    return [number for pair in row for number in pair]


def rr_times(how, x, y):
    return [0] + flat(times(how, p, q) for p, q in zip(pairs(x), pairs(y)))


def rr_more(how, x, y, s):
    return [0] + flat(added(how, p, q, r) for p, q, r in zip(pairs(x), pairs(y), pairs(s)))


def dot_sums(how, x, y):
    xs, ys = pairs(x), pairs(y)
    sums = []
    for i in range(16):
        s = (0, 0)
        for j in range(i, len(xs), 16):
            s = added(how, xs[j], ys[j], s)
        sums.append(s)
    return sums


def rr_dot(how, x, y):
    sums = dot_sums(how, x, y)
    for count in (8, 4, 2, 1):
        for i in range(count):
            u, v = sums[i], sums[i + count]
            sums[i] = (add(u[0], v[0]), add(u[1], v[1]))
    return [0] + list(sums[0])


def power_sums(x):
    sums = []
    for place in range(32):
        s = 0
        for j in range(place // 2, len(x) // 2, 16):
            s = fma(x[2 * j + place % 2], x[2 * j + place % 2], s)
        sums.append(s)
    return sums


def rr_power(x):
    sums = power_sums(x)
    for count in (16, 8, 4, 2, 1):
        for i in range(count):
            sums[i] = add(sums[i], sums[i + count])
    return [0, sums[0]]


def rr_transform(how, x, roots):
    return [0] + flat(transform(how, pairs(x), pairs(roots)))


def transform(how, x, roots):
    """By the transforms of every other number: the document's steps, told from the last one back."""
    if len(x) == 1:
        return [(plain(x[0][0]), plain(x[0][1]))]
    us = transform(how, x[0::2], roots[0::2])
    vs = transform(how, x[1::2], roots[0::2])
    lower = [added(how, v, w, u) for u, v, w in zip(us, vs, roots)]
    upper = [added(how, (neg(v[0]), neg(v[1])), w, u) for u, v, w in zip(us, vs, roots)]
    return lower + upper


def rr_scale(k, x):
    return [0] + [scale(k, bits) for bits in x]


def scale(k, bits):
    if UNITS[bits] is None:
        return plain(bits)
    return nearest(Fraction(value(bits)) * Fraction(2)**k)


def rr_limit(bound, x):
    return [0] + [limit(value(bound), bits) for bits in x]


def limit(bound, bits):
    number = value(bits)
    if math.isnan(number):
        return 0
    nearest_inside = sorted((-bound, number, bound))[1]
    return plain(struct.unpack("<H", struct.pack("<e", nearest_inside))[0])


def rr_kinds(x):
    return [0] + [[kind(value(bits)) for bits in x].count(number) for number in range(6)]


def kind(number):
    tests = (math.isnan(number), math.isinf(number), number == 0, abs(number) < 2.0**-14, number < 0, True)
    return tests.index(True)


def rr_top(x):
    sizes = [abs(value(bits)) for bits in x if math.isfinite(value(bits))]
    return [max((e for e in range(-24, 16) if any(size >= 2.0**e for size in sizes)), default=-25)]


def rr_words(k, w):
    signed = [word - 65536 if word >> 15 else word for word in w]
    return [0] + [scale(k, nearest(word)) for word in signed]


def rr_to_words(k, x):
    return [0] + [word(scale(k, bits)) for bits in x]


def word(bits):
    number = value(bits)
    if math.isnan(number):
        return 0
    # Python's round takes of two as near the even one, too.
    whole = round(number) if math.isfinite(number) else math.copysign(40000, number)
    return int(sorted((-32768, whole, 32767))[1]) & 0xFFFF


# The levels by unit, told by the bits of an axis.
LEVELS = {
    1: {"0": -1, "1": 1},
    2: {"00": -3, "01": -1, "11": 1, "10": 3},
    3: {"000": -7, "001": -5, "011": -3, "010": -1, "110": 1, "111": 3, "101": 5, "100": 7},
}


def level(unit, bits):
    by = LEVELS[len(bits)]["".join(map(str, bits))]
    return nearest(Fraction(value(unit)) * by)


def point(q, unit, bits):
    if q == 1:
        return level(unit, bits), 0
    return level(unit, bits[:q // 2]), level(unit, bits[q // 2:])


def rr_points(q, unit, bits):
    return [0] + flat(point(q, unit, bits[i:i + q]) for i in range(0, len(bits), q))


def square(x):
    return fma(x[1], x[1], fma(x[0], x[0], 0))


def not_above(x, y):
    # Of floats that are no number every comparison is False.
    return value(x) <= value(y)


def decide_axis(width, unit, g, part):
    levels = 2**width
    bounds = [fma(g, fma(unit, half(2 * j - levels), 0), 0) for j in range(1, levels)]
    i = [not_above(bound, part) for bound in bounds].count(True)
    codes = {by: code for code, by in LEVELS[width].items()}
    return [int(bit) for bit in codes[2 * i + 1 - levels]]


def decide(q, unit, h, x):
    y = times(1, x, h)
    g = square(h)
    if q == 1:
        return decide_axis(1, unit, g, y[0])
    return decide_axis(q // 2, unit, g, y[0]) + decide_axis(q // 2, unit, g, y[1])


def rr_decide(q, unit, h, x):
    return [0] + [bit for p, r in zip(pairs(h), pairs(x)) for bit in decide(q, unit, p, r)]


def plain(bits):
    """How a half is told that was handed in by some of its forms."""
    if bits in (0, NEG_ZERO):
        return 0
    return NAN if bits & 0x7FFF > INF else bits


def difference(answer, expected):
    """Where two rows differ first, or None; unittest's own comparison takes hours of two long ones."""
    if len(answer) != len(expected):
        return f"{len(answer)} numbers, not {len(expected)}"
    for place, (got, wanted) in enumerate(zip(answer, expected)):
        if got != wanted:
            return f"number {place} is {got}, not {wanted}"
    return None


def row_of_any(n, seed):
    """n complex halves among all 65536 forms, the same ones each time."""
    return [bits & 0xFFFF for bits in walk(2 * n, seed)]


def row_of_middling(n, seed):
    """n complex halves of magnitudes from 2^-4 to 16: sums of them stay finite, but round."""
    return [(bits & 0x83FF) + 0x2C00 + 0x400 * ((bits >> 10 & 31) % 8) for bits in walk(2 * n, seed)]


def walk(count, seed):
    state = seed
    for _ in range(count):
        state = (state * 6364136223846793005 + 1442695040888963407) % 2**64
        yield state >> 40
