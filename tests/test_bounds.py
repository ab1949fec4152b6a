"""rr_limit, rr_kinds and rr_top: parts compared with bounds, and with one another."""

import unittest

from halfradio.rows import rr_kinds, rr_limit, rr_top
from tests import reference
from tests.reference import INF, NAN_FORMS, NEG_INF, NEG_ZERO, difference, half, halves, row_of_any

LEAST = 0x0001
TOP = 0x7BFF
BOUNDS = (0, NEG_ZERO, LEAST, 0x0002, 0x03FF, 0x0400, half(1), half(1.5), half(1000), TOP, INF)
WRONG_BOUNDS = (0x8001, 0x83FF, 0x8400, half(-1), half(-65504), NEG_INF)
NORMAL = half(2.0**-14)


class Limit(unittest.TestCase):
    def parts(self, bound, parts, told):
        """Some parts, as real ones and as imaginary ones."""
        zeros = [0] * len(parts)
        real = reference.flat(zip(parts, zeros))
        imaginary = reference.flat(zip(zeros, parts))
        self.assertEqual(rr_limit(len(parts), bound, real), [0] + reference.flat(zip(told, zeros)), bound)
        self.assertEqual(rr_limit(len(parts), bound, imaginary), [0] + reference.flat(zip(zeros, told)), bound)

    def test_ordinary(self):
        x = halves(3, -4, 0.5, -0.25, 2, -2)
        self.assertEqual(rr_limit(3, half(2), x), [0] + halves(2, -2, 0.5, -0.25, 2, -2))
        self.assertEqual(rr_limit(3, half(0.375), x), [0] + halves(0.375, -0.375, 0.375, -0.25, 0.375, -0.375))

    def test_none_at_all(self):
        for bound in BOUNDS:
            self.assertEqual(rr_limit(0, bound, []), [0])

    def test_a_bound_of_0(self):
        parts = [0, NEG_ZERO, LEAST, 0x8001, half(5), half(-5), TOP, 0xFBFF, INF, NEG_INF, 0x7C01, 0xFFFF]
        for bound in (0, NEG_ZERO):
            self.parts(bound, parts, [0] * len(parts))

    def test_a_bound_of_the_least_half(self):
        parts = [0, NEG_ZERO, LEAST, 0x8001, 0x0002, 0x8002, TOP, 0xFBFF, INF, NEG_INF]
        self.parts(LEAST, parts, [0, 0] + [LEAST, 0x8001] * 4)

    def test_a_bound_of_65504(self):
        parts = [0x7BFE, 0xFBFE, TOP, 0xFBFF, INF, NEG_INF, 0, NEG_ZERO]
        self.parts(TOP, parts, [0x7BFE, 0xFBFE] + [TOP, 0xFBFF] * 2 + [0, 0])

    def test_an_infinite_bound(self):
        parts = [TOP, 0xFBFF, INF, NEG_INF, 0, NEG_ZERO, LEAST, 0x8001]
        self.parts(INF, parts, [TOP, 0xFBFF, INF, NEG_INF, 0, 0, LEAST, 0x8001])

    def test_at_the_bound_and_beside_it(self):
        for bound in (0x0002, 0x03FF, 0x0400, 0x0401, half(1), half(1.5), half(1000), 0x7BFE):
            parts = [bound - 1, bound, bound + 1]
            told = [bound - 1, bound, bound]
            self.parts(bound, parts, told)
            self.parts(bound, [reference.neg(bits) for bits in parts], [reference.neg(bits) for bits in told])

    def test_no_number_is_0(self):
        for bound in BOUNDS:
            self.assertEqual(rr_limit(1023, bound, NAN_FORMS), [0] + [0] * 2046)

    def test_any_row(self):
        for bound in BOUNDS:
            for n in (1, 17, 300):
                x = row_of_any(n, bound + n)
                self.assertIsNone(difference(rr_limit(n, bound, x), reference.rr_limit(bound, x)))
        x = row_of_any(4096, 8)
        self.assertIsNone(difference(rr_limit(4096, half(1), x), reference.rr_limit(half(1), x)))

    def test_a_bound_below_0_is_refused(self):
        for bound in WRONG_BOUNDS:
            for n in (0, 1, 4096):
                self.assertEqual(rr_limit(n, bound, [0] * (2 * n)), [-2], (n, bound))

    def test_a_bound_that_is_no_number_is_refused(self):
        for bound in NAN_FORMS:
            self.assertEqual(rr_limit(0, bound, []), [-2], bound)
            self.assertEqual(rr_limit(1, bound, halves(1, 1)), [-2], bound)

    def test_both_wrong(self):
        for n in (-1, 4097, -2147483648, 2147483647):
            for bound in WRONG_BOUNDS + (0x7C01, 0xFFFF):
                self.assertEqual(rr_limit(n, bound, []), [-2], (n, bound))


class Kinds(unittest.TestCase):
    def all_of(self, parts, place):
        """Each part alone, beside a 1, is of one kind; so are all of them together."""
        for bits in parts:
            for x in ([bits, half(1)], [half(1), bits]):
                told = [0, 0, 0, 0, 0, 1]
                told[place] += 1
                self.assertEqual(rr_kinds(1, x), [0] + told, bits)
        told = [0] * 6
        told[place] = 2 * len(parts)
        self.assertEqual(rr_kinds(len(parts), parts * 2), [0] + told)

    def test_ordinary(self):
        x = [half(1), half(-1), 0, INF, 0x7C01, 0x0001, half(2), NEG_ZERO]
        self.assertEqual(rr_kinds(4, x), [0, 1, 1, 2, 1, 1, 2])

    def test_none_at_all(self):
        self.assertEqual(rr_kinds(0, []), [0, 0, 0, 0, 0, 0, 0])

    def test_no_number(self):
        self.all_of(NAN_FORMS, 0)

    def test_infinite(self):
        self.all_of([INF, NEG_INF], 1)

    def test_zeros(self):
        self.all_of([0, NEG_ZERO], 2)

    def test_small_ones(self):
        self.all_of([LEAST, 0x8001, 0x0002, 0x0200, 0x8200, NORMAL - 1, NORMAL - 1 + 0x8000], 3)

    def test_below_0(self):
        self.all_of([NORMAL + 0x8000, NORMAL + 0x8001, half(-1), half(-100), 0xFBFF], 4)

    def test_others(self):
        self.all_of([NORMAL, NORMAL + 1, half(1), half(100), TOP], 5)

    def test_all_halves(self):
        told = [0] * 6
        for start in range(0, 65536, 8192):
            answer = rr_kinds(4096, list(range(start, start + 8192)))
            self.assertEqual(len(answer), 7)
            told = [u + v for u, v in zip(told, answer[1:])]
        self.assertEqual(told, [2046, 2, 2, 2046, 30720, 30720])

    def test_any_row(self):
        for n in (1, 2, 17, 300, 4096):
            x = row_of_any(n, 20 + n)
            self.assertEqual(rr_kinds(n, x), reference.rr_kinds(x))


class Top(unittest.TestCase):
    def one(self, bits, told):
        """A part, in each place and on either side of 0, beside what doesn't count."""
        for turned in (bits, reference.neg(bits)):
            for other in (0, NEG_ZERO, INF, NEG_INF, 0x7C01, 0x7FFF, 0xFC01, 0xFFFF, LEAST):
                self.assertEqual(rr_top(1, [turned, other]), [told], (bits, other))
                self.assertEqual(rr_top(1, [other, turned]), [told], (bits, other))
                self.assertEqual(rr_top(3, [other] * 3 + [turned] + [other] * 2), [told], (bits, other))

    def test_ordinary(self):
        self.assertEqual(rr_top(1, halves(1, 0)), [0])
        self.assertEqual(rr_top(2, halves(1, -5, 3, 0.25)), [2])
        self.assertEqual(rr_top(2, halves(0.125, -0.3125, 0.25, 0)), [-2])

    def test_each_power_of_2(self):
        for e in range(-24, 16):
            self.one(half(2.0**e), e)

    def test_just_below_and_above(self):
        for e in range(-22, 16):
            self.one(half(2.0**e) - 1, e - 1)
            self.one(half(2.0**e) + 1, e)
        self.one(0x0003, -23)

    def test_the_ends(self):
        self.one(LEAST, -24)
        self.one(NORMAL - 1, -15)
        self.one(NORMAL, -14)
        self.one(TOP, 15)

    def test_none_but_0(self):
        for x in ([0, 0], [0, NEG_ZERO], [NEG_ZERO, NEG_ZERO], [0, INF], [NEG_INF, NEG_ZERO], [0, 0x7C01], [0xFFFF, 0]):
            self.assertEqual(rr_top(1, x), [-25])
            self.assertEqual(rr_top(9, x * 9), [-25])

    def test_none_finite(self):
        self.assertEqual(rr_top(1, [INF, NEG_INF]), [-25])
        self.assertEqual(rr_top(1023, NAN_FORMS), [-25])
        self.assertEqual(rr_top(1024, NAN_FORMS + [INF, NEG_INF]), [-25])

    def test_none_at_all(self):
        self.assertEqual(rr_top(0, []), [-25])

    def test_any_row(self):
        for n in (1, 2, 3, 17, 300, 4096):
            for seed in range(10):
                x = [capped(bits, 0x0C00 * seed) for bits in row_of_any(n, seed)]
                self.assertEqual(rr_top(n, x), reference.rr_top(x))

    def test_the_last_of_many(self):
        x = halves(1, 1) * 4096
        for place in (0, 1, 4095, 8190, 8191):
            row = list(x)
            row[place] = half(-300)
            self.assertEqual(rr_top(4096, row), [8])

    def test_the_refusal_is_100_below_0(self):
        for n in (-1, 4097, -2147483648, 2147483647):
            self.assertEqual(rr_top(n, []), [-100])


def capped(bits, highest):
    """A half with its exponent held to a highest one; what isn't finite stays."""
    return bits if bits & 0x7C00 == 0x7C00 else bits & 0x83FF | min(bits & 0x7C00, highest)


if __name__ == "__main__":
    unittest.main()
