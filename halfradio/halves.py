"""Halves, and the steps on them that round once.

Within the program a half is a *part*: a whole number, told in units of 2^-24,
of which every finite half is a whole multiple. 2^40 of these units (65536)
stand for infinite, and whatever has a greater magnitude is no number; so a
part is turned to the other side of 0 by a plain minus, whatever it is, and
there is but one 0. A complex half is a pair of parts, the real one first.
"""

UNIT_BITS = 24
ONE = 16777216
INFINITE = 1099511627776
NO_NUMBER = 2199023255552

SIGNIFICANT_BITS = 11
SIGN_BIT = 32768
NO_NUMBER_BITS = 32256


def part_of(bits):
    """The part that 16 bits tell."""
    exponent = (bits >> 10) & 31
    fraction = bits & 1023
    # The highest exponent needs no case of its own: read like the others it
    # gives INFINITE where the fraction is 0, and more than that elsewhere.
    size = fraction if exponent == 0 else (1024 + fraction) << (exponent - 1)
    return -size if bits & SIGN_BIT else size


def bits_of(part):
    """The 16 bits that tell a part."""
    size = abs(part)
    if size > INFINITE:
        return NO_NUMBER_BITS
    shift = max(size.bit_length() - SIGNIFICANT_BITS, 0)
    # The leading bit is left in, and counts one exponent more where there is one.
    bits = (shift << 10) + (size >> shift)
    return bits + SIGN_BIT if part < 0 else bits


def rounded(exact):
    """The part nearest to a whole number of units of 2^-48, of two as near the even one."""
    shift = max(exact.bit_length() - SIGNIFICANT_BITS, UNIT_BITS)
    # Just less than a half is added to an even number and a half to an odd one;
    # the shift goes downwards below 0 too, so this holds on both sides of 0.
    odd = (exact >> shift) & 1
    kept = (exact + (1 << (shift - 1)) - 1 + odd) >> shift
    part = kept << (shift - UNIT_BITS)
    return max(-INFINITE, min(INFINITE, part))


def finite(part):
    return -INFINITE < part < INFINITE


def fma(x, y, z):
    """x y + z, rounded once."""
    if finite(x) and finite(y) and finite(z):
        return rounded(x * y + (z << UNIT_BITS))
    return fma_not_finite(x, y, z)


def fma_not_finite(x, y, z):
    """x y + z, where one of the three at least isn't finite."""
    if max(abs(x), abs(y), abs(z)) > INFINITE:
        return NO_NUMBER
    if finite(x) and finite(y):
        return z
    if x == 0 or y == 0:
        return NO_NUMBER
    infinite = INFINITE if (x > 0) == (y > 0) else -INFINITE
    return NO_NUMBER if z == -infinite else infinite


def plus(x, y):
    """x + y, rounded once."""
    return fma(x, ONE, y)


def conjugate(y):
    return (y[0], -y[1])


def add_product(x, y, s):
    """x y added to s, all of them pairs."""
    real = fma(-x[1], y[1], fma(x[0], y[0], s[0]))
    imaginary = fma(x[0], y[1], fma(x[1], y[0], s[1]))
    return (real, imaginary)


def product(x, y):
    """x y, of pairs: added to 0, the first of its two steps is a product rounded."""
    return add_product(x, y, (0, 0))
