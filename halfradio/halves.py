"""Halves, and the steps on them that round once.

Within the program a half is a *part*: a whole number, told in units of 2^-24,
of which every finite half is a whole multiple. 2^40 of these units (65536)
stand for infinite, and whatever has a greater magnitude is no number; so a
part is turned to the other side of 0 by a plain minus, whatever it is, and
there is but one 0. A complex half is a pair of parts, the real one first.
"""

UNIT_BITS = 24
ONE = 16777216
# The least half that isn't small, 2^-14.
NORMAL = 1024
INFINITE = 1099511627776
NO_NUMBER = 2199023255552

SIGNIFICANT_BITS = 11
# Of a number in units of 2^-48: with no more bits than SMALL_BITS it is rounded to whole
# units of 2^-24, and with fewer than LARGE_BITS it can't become infinite.
SMALL_BITS = 35
LARGE_BITS = 64
SIGN_BIT = 32768
NO_NUMBER_BITS = 32256


def part_of(bits):
    """The part that 16 bits tell."""
    exponent = (bits >> 10) & 31
    fraction = bits & 1023
    # The highest exponent needs no case of its own: read like the others it
    # gives INFINITE where the fraction is 0, and more than that elsewhere.
    size = fraction if exponent == 0 else (1024 + fraction) << (exponent - 1)
    return -size if bits & SIGN_BIT else size


def bits_of(part):
    """The 16 bits that tell a part."""
    if no_number(part):
        return NO_NUMBER_BITS
    size = abs(part)
    shift = max(size.bit_length() - SIGNIFICANT_BITS, 0)
    # The leading bit is left in, and counts one exponent more where there is one.
    bits = (shift << 10) + (size >> shift)
    return bits + SIGN_BIT if part < 0 else bits


def nearest(exact, shift):
    """The whole number nearest to exact by 2^-shift, of two as near the even one; shift is above 0."""
    # Just less than a half is added to an even number and a half to an odd one;
    # the shift goes downwards below 0 too, so this holds on both sides of 0.
    odd = (exact >> shift) & 1
    return (exact + (1 << (shift - 1)) - 1 + odd) >> shift


def rounded(exact):
    """The part nearest to a whole number of units of 2^-48, of two as near the even one."""
    size = exact.bit_length()
    shift = size - SIGNIFICANT_BITS if size > SMALL_BITS else UNIT_BITS
    # This is nearest(exact, shift), written out: every step of the program comes by here.
    odd = (exact >> shift) & 1
    part = (exact + (1 << (shift - 1)) - 1 + odd) >> shift << (shift - UNIT_BITS)
    return part if size < LARGE_BITS else held(part)


def held(part):
    """A part of any size, with infinite for what is beyond the finite ones."""
    return max(-INFINITE, min(INFINITE, part))


def finite(part):
    return -INFINITE < part < INFINITE


def no_number(part):
    return abs(part) > INFINITE


def fma(x, y, z):
    """x y + z, rounded once."""
    # finite, written out, for the same reason as in rounded.
    if -INFINITE < x < INFINITE and -INFINITE < y < INFINITE and -INFINITE < z < INFINITE:
        return rounded(x * y + (z << UNIT_BITS))
    return fma_not_finite(x, y, z)


def fma_not_finite(x, y, z):
    """x y + z, where one of the three at least isn't finite."""
    if no_number(x) or no_number(y) or no_number(z):
        return NO_NUMBER
    if finite(x) and finite(y):
        return z
    if x == 0 or y == 0:
        return NO_NUMBER
    infinite = INFINITE if (x > 0) == (y > 0) else -INFINITE
    return NO_NUMBER if z == -infinite else infinite


def plus(x, y):
    """x + y, rounded once."""
    return fma(x, ONE, y)


def scaled(part, k):
    """A part times 2^k, rounded once."""
    if not finite(part):
        return part
    # No more bits are set than a half has, so only what goes below the units is rounded.
    return held(part << k) if k >= 0 else nearest(part, -k)


def at_most(x, y):
    """Whether both are numbers, and x isn't above y."""
    return x <= y and not no_number(x) and not no_number(y)


def conjugate(y):
    return (y[0], -y[1])


def add_product(x, y, s):
    """x y added to s, all of them pairs."""
    real = fma(-x[1], y[1], fma(x[0], y[0], s[0]))
    imaginary = fma(x[0], y[1], fma(x[1], y[0], s[1]))
    return (real, imaginary)


def negative(x):
    return (-x[0], -x[1])


def product(x, y):
    """x y, of pairs: added to 0, the first of its two steps is a product rounded."""
    return add_product(x, y, (0, 0))


def square(x):
    """x's square, of a pair."""
    return fma(x[1], x[1], fma(x[0], x[0], 0))


def parts_of(numbers):
    return [part_of(number) for number in numbers]


def pairs_of(numbers):
    """The complex halves of a list that tells each by two numbers."""
    return [(part_of(numbers[i]), part_of(numbers[i + 1])) for i in range(0, len(numbers), 2)]


def numbers_of(pairs):
    """The list that tells complex halves, each by two numbers."""
    numbers = []
    for pair in pairs:
        numbers.append(bits_of(pair[0]))
        numbers.append(bits_of(pair[1]))
    return numbers
