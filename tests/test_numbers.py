"""What the document says of halves and products, through each of the three calls.

A single product is told alike by rr_times, by rr_more added to 0, and by rr_dot of one.
"""

import unittest

from halfradio.rows import rr_dot, rr_more, rr_times
from tests import reference
from tests.reference import INF, NAN, NAN_FORMS, NEG_INF, NEG_ZERO, difference, half, halves, plain

CALLS = {
    "rr_times": lambda how, x, y: rr_times(1, how, x, y),
    "rr_more": lambda how, x, y: rr_more(1, how, x, y, [0, 0]),
    "rr_dot": lambda how, x, y: rr_dot(1, how, x, y),
}

STEP = 2.0**-10
TINY = 2.0**-24


class Numbers(unittest.TestCase):
    def says(self, x, y, real, imaginary, how=0):
        for name, call in CALLS.items():
            with self.subTest(call=name, how=how, x=x, y=y):
                self.assertEqual(call(how, x, y), [0, real, imaginary])

    def says_real(self, a, c, real):
        """a c, of parts that are bits, in either part of the product and on either side of 0."""
        other = 0 if real == 0 else reference.neg(real)
        self.says([a, 0], [c, 0], real, 0)
        self.says([0, a], [c, 0], 0, real)
        self.says([reference.neg(a), 0], [c, 0], other, 0)
        self.says([0, a], [0, c], other, 0)
        self.says([0, a], [0, c], real, 0, how=1)
        self.says([a, 0], [0, c], 0, other, how=1)

    def test_ordinary(self):
        self.says(halves(1, 2), halves(3, 4), half(-5), half(10))
        self.says(halves(1, 2), halves(3, 4), half(11), half(2), how=1)
        self.says(halves(-0.5, 3), halves(8, -0.25), half(-3.25), half(24.125))
        self.says(halves(-0.5, 3), halves(8, -0.25), half(-4.75), half(23.875), how=1)

    def test_of_two_as_near_the_even_one(self):
        self.says_real(half(1.5), half(1 + STEP), half(1.5 + 2 * STEP))
        self.says_real(half(1.5), half(1 + 3 * STEP), half(1.5 + 4 * STEP))
        self.says_real(half(1.5), half(1 + 2 * STEP), half(1.5 + 3 * STEP))

    def test_near_the_middle_of_two(self):
        for b, real, imaginary in ((1, 2048, 2047), (1 + STEP, 2050, 2047), (1 - STEP / 2, 2048, 2047)):
            self.says(halves(2048, -b), halves(1, 1), half(real), half(imaginary))
        for b, real, imaginary in ((1, 2052, -2048), (1 + STEP, 2052, -2048), (1 - STEP / 2, 2050, -2050)):
            self.says(halves(2050, b), halves(1, 1), half(real), half(imaginary), how=1)

    def test_rounds_once_where_a_product_needs_more_bits(self):
        # (1 + 2^-10) (1 - 2^-10) is just below 1, but is 1 once rounded by itself.
        self.says(halves(2050, 1 + STEP), halves(1, -1 + STEP), half(2050), half(-2047))

    def test_two_steps_differ_from_other_ways(self):
        for bits in (
            (0xC920, 0xC7EC, 0xC92F, 0xCBE0, 0xCCA1, 0x5B9C),
            (0xC28F, 0xBEE2, 0x47AB, 0xC213, 0xCF97, 0xC279),
            (0x44EF, 0x4AAE, 0x41AF, 0x3DB7, 0xC510, 0x51A1),
        ):
            a, b, c, d, real, imaginary = bits
            for other in other_products(a, b, c, d):
                self.assertNotEqual(other[0], real)
                self.assertNotEqual(other[1], imaginary)
            self.says([a, b], [c, d], real, imaginary)
            self.says([a, b], [c, reference.neg(d)], real, imaginary, how=1)

    def test_small_ones_are_kept(self):
        self.says_real(half(2.0**-14), half(0.5), 0x0200)
        self.says_real(half(2.0**-14 - TINY), half(1), 0x03FF)
        self.says_real(half(2.0**-14), half(1), 0x0400)
        self.says_real(half(2.0**-15), half(2 - STEP), 0x0400)
        self.says_real(half(2.0**-15), half(2 - 2 * STEP), 0x03FF)
        self.says_real(half(2.0**-12), half(2.0**-12), 0x0001)
        self.says_real(half(TINY), half(1), 0x0001)
        self.says_real(half(TINY), half(0.75), 0x0001)
        self.says_real(half(TINY), half(0.5), 0)
        self.says_real(half(TINY), half(0.5 + STEP / 2), 0x0001)
        self.says_real(half(TINY), half(0.5 - STEP / 2), 0)
        self.says_real(half(3 * TINY), half(0.5), 0x0002)
        self.says_real(half(5 * TINY), half(0.5), 0x0002)
        self.says_real(half(TINY), half(TINY), 0)
        self.says(halves(2.0**-14 + TINY, 2.0**-14), halves(1, 1), 0x0001, half(2.0**-13 + 2 * TINY) - 1)

    def test_65520_is_infinite_and_what_is_below_is_not(self):
        self.says_real(half(240), half(273), INF)
        self.says_real(half(1052), half(1993 / 32), half(65504))
        self.says_real(half(1055), half(1988 / 32), INF)
        self.says_real(half(65504), half(1), half(65504))
        self.says_real(half(65504), half(1 + STEP), INF)
        self.says_real(half(65504), half(65504), INF)
        self.says_real(half(256), half(256), INF)
        below = half(4 - 2.0**-9)
        self.says([half(65504), half(-4)], [half(1), half(4)], INF, INF)
        self.says([half(65504), half(-4)], [half(1), below], half(65504), INF)
        self.says([half(-65504), half(4)], [half(1), half(4)], NEG_INF, NEG_INF)
        self.says([half(-65504), half(4)], [half(1), below], half(-65504), NEG_INF)

    def test_what_became_infinite_stays_so(self):
        self.says(halves(300, 300), halves(300, 300), INF, INF)
        self.says(halves(300, 300), halves(300, 300), INF, INF, how=1)
        self.says(halves(-300, 300), halves(300, 300), NEG_INF, INF)
        # Only the first step is rounded by itself: the second may come back from beyond.
        self.says(halves(256, 512), halves(255.875, 128), half(-32), INF)

    def test_zeros_are_one_number(self):
        for code in range(16):
            a, b, c, d = [NEG_ZERO if code >> i & 1 else 0 for i in range(4)]
            for how in (0, 1):
                self.says([a, b], [c, d], 0, 0, how=how)
                self.says([half(-1), b], [c, d], 0, 0, how=how)
                self.says([a, b], [half(1), half(-1)], 0, 0, how=how)
        self.says(halves(1, 1), halves(1, 1), 0, half(2))
        self.says(halves(1, 1), halves(1, 1), half(2), 0, how=1)
        self.says(halves(-1, 1), halves(1, -1), 0, half(2))

    def test_infinite_parts(self):
        two, three = half(2), half(3)
        self.says([INF, half(1)], [two, three], INF, INF)
        self.says([NEG_INF, half(1)], [two, three], NEG_INF, NEG_INF)
        self.says([half(1), INF], [two, three], NEG_INF, INF)
        self.says([half(1), INF], [two, three], INF, INF, how=1)
        self.says([two, three], [half(1), NEG_INF], INF, NEG_INF)
        self.says([two, three], [NEG_INF, half(1)], NEG_INF, NEG_INF)
        self.says([half(1), half(-1)], [INF, half(5)], INF, NEG_INF)
        self.says([half(-300), half(300)], [INF, half(65504)], NEG_INF, INF)

    def test_the_least_half_by_infinite(self):
        for least, infinite, told in ((1, INF, INF), (1, NEG_INF, NEG_INF), (0x8001, INF, NEG_INF)):
            self.says([least, least], [infinite, half(1)], told, told)
            self.says([infinite, half(1)], [least, least], told, told)

    def test_infinite_less_infinite_is_no_number(self):
        one = half(1)
        self.says([INF, INF], [one, one], NAN, INF)
        self.says([INF, INF], [one, one], INF, NAN, how=1)
        self.says([INF, NEG_INF], [one, one], INF, NAN)
        self.says([INF, INF], [INF, INF], NAN, INF)
        self.says([NEG_INF, INF], [INF, INF], NEG_INF, NAN)
        # The first step of these is infinite by its size, the second by its factor.
        self.says([half(300), INF], [half(300), one], NAN, INF)

    def test_zero_by_infinite_is_no_number(self):
        for zero in (0, NEG_ZERO):
            for infinite in (INF, NEG_INF):
                self.says([infinite, half(1)], [half(1), zero], infinite, NAN)
                self.says([infinite, half(1)], [zero, half(1)], NAN, infinite)
                self.says([half(1), infinite], [half(1), zero], NAN, infinite)
                self.says([zero, half(1)], [infinite, half(1)], NAN, infinite)
                self.says([zero, zero], [infinite, zero], NAN, NAN)
                self.says([zero, zero], [zero, infinite], NAN, NAN, how=1)

    def test_no_number_in_any_part(self):
        others = (0, half(1), half(-3), INF)
        for form in (0x7C01, 0x7E00, 0x7FFF, 0xFC01, 0xFE00, 0xFFFF):
            for other in others:
                for place in range(4):
                    parts = [other] * 4
                    parts[place] = form
                    for how in (0, 1):
                        self.says(parts[:2], parts[2:], NAN, NAN, how=how)

    def test_every_form_that_is_no_number(self):
        self.assertEqual(len(NAN_FORMS), 2046)
        for form in NAN_FORMS:
            for name, call in CALLS.items():
                self.assertEqual(call(0, [form, 0], [half(1), 0]), [0, NAN, NAN], (name, form))
                self.assertEqual(call(1, [half(1), 0], [0, form]), [0, NAN, NAN], (name, form))

    def test_every_form_by_one(self):
        ones = halves(1, 0) * 4096
        for start in range(0, 65536, 4096):
            forms = range(start, start + 4096)
            row = reference.flat((bits, 0) for bits in forms)
            self.assertIsNone(difference(rr_times(4096, 0, row, ones), reference.rr_times(0, row, ones)))

    def test_every_form_told_again(self):
        zeros = [0] * 8192
        for start in range(0, 65536, 8192):
            row = list(range(start, start + 8192))
            told = [0] + [plain(bits) for bits in row]
            self.assertIsNone(difference(rr_more(4096, 0, zeros, zeros, row), told))


def other_products(a, b, c, d):
    """Ways to multiply that round more often, less often, or the other product."""
    fma, add, neg = reference.fma, reference.add, reference.neg
    exact = [reference.Fraction(reference.value(part)) for part in (a, b, c, d)]
    ac, bd, ad, bc = fma(a, c, 0), fma(b, d, 0), fma(a, d, 0), fma(b, c, 0)
    return [
        (reference.nearest(exact[0] * exact[2] - exact[1] * exact[3]),
         reference.nearest(exact[0] * exact[3] + exact[1] * exact[2])),
        (add(ac, neg(bd)), add(ad, bc)),
        (fma(a, c, neg(bd)), fma(b, c, ad)),
    ]


if __name__ == "__main__":
    unittest.main()
