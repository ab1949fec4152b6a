"""Points: bits on one axis or two, by Gray's code.

An axis of b bits has 2^b levels, unit by the odd numbers from 1 - 2^b on; the
number of a level, i, is told by the bits of i's Gray code, the highest first.
"""

from halfradio.halves import NORMAL, ONE, at_most, conjugate, fma, product, square

POINT_BITS = (1, 2, 4, 6)
# 4096, in units of 2^-24.
GREATEST_UNIT = 68719476736


def wrong_points(q, unit):
    """Whether q or the part unit is none that points are made with."""
    return q not in POINT_BITS or unit < NORMAL or unit > GREATEST_UNIT


def wrong_bits(bits):
    return any([bit not in (0, 1) for bit in bits])


def points_of(q, unit, bits):
    """The point that each q bits tell, as a pair of parts."""
    width = axis_width(q)
    levels = levels_of(unit, width)
    points = []
    for start in range(0, len(bits), q):
        real = levels[number_of(bits, start, width)]
        imaginary = levels[number_of(bits, start + width, width)] if q > 1 else 0
        points.append((real, imaginary))
    return points


def axis_width(q):
    """How many bits an axis has; of q 1 there is but one axis."""
    return 1 if q == 1 else q // 2


def levels_of(unit, width):
    """The levels of an axis, in the order of their codes."""
    count = 1 << width
    levels = [0] * count
    for i in range(count):
        levels[gray(i)] = fma(unit, (2 * i + 1 - count) * ONE, 0)
    return levels


def gray(i):
    return i ^ (i >> 1)


def number_of(bits, start, width):
    """Some bits, read as a number, the highest first."""
    number = 0
    for place in range(start, start + width):
        number = 2 * number + bits[place]
    return number


def steps_of(unit, width):
    """The bounds between the levels of an axis, in their order, as they are where g is 1."""
    count = 1 << width
    return [fma(unit, (2 * j - count) * ONE, 0) for j in range(1, count)]


def decided(q, steps, h, x):
    """The q bits of x, which came by h; steps are those of an axis."""
    y = product(x, conjugate(h))
    g = square(h)
    bounds = [fma(g, step, 0) for step in steps]
    bits = axis_bits(q, bounds, y[0])
    if q > 1:
        bits.extend(axis_bits(q, bounds, y[1]))
    return bits


def axis_bits(q, bounds, part):
    """The bits of the level that a part lies at: as many bounds aren't above it as levels are below."""
    code = gray(len([bound for bound in bounds if at_most(bound, part)]))
    width = axis_width(q)
    return [(code >> (width - 1 - place)) & 1 for place in range(width)]
