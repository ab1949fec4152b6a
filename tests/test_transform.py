"""rr_transform: the order of the places, the number of the root, and the roundings of each step."""

import unittest

from halfradio.rows import rr_transform
from tests import reference
from tests.reference import INF, NAN, NAN_FORMS, NEG_INF, NEG_ZERO, TWO_STEPS
from tests.reference import difference, half, halves, row_of_any, row_of_middling

ONE_ROOT = halves(1, 0)
TWO_ROOTS = halves(1, 0, 0, -1)

def power_roots(k):
    """2^(k-1) roots that are powers of 2, and so no unit roots but the first."""
    return [number for j in range(2**(k - 1)) for number in halves(2.0**j, 0)]


def times_root(number, root):
    return (number[0] * root[0] - number[1] * root[1], number[0] * root[1] + number[1] * root[0])


def single(k, place, roots):
    """What the transform of 1 at one place and 0 elsewhere is, worked out place by place."""
    told = []
    for i in range(2**k):
        number = (1.0, 0.0)
        for step in range(k):
            if place >> (k - 1 - step) & 1:
                number = times_root(number, roots[(i % 2**step) * 2**(k - 1 - step)])
                if i >> step & 1:
                    number = (-number[0], -number[1])
        told += halves(*number)
    return told


class Transform(unittest.TestCase):
    def both(self, k, x, roots, message=None):
        for how in (0, 1):
            expected = reference.rr_transform(how, x, roots)
            self.assertIsNone(difference(rr_transform(k, how, x, roots), expected), message)

    def test_of_one(self):
        for how in (0, 1):
            self.assertEqual(rr_transform(0, how, halves(3, -4), []), [0] + halves(3, -4))
            self.assertEqual(rr_transform(0, how, [NEG_ZERO, 0x7C01], []), [0, 0, NAN])
            self.assertEqual(rr_transform(0, how, [0xFFFF, NEG_ZERO], []), [0, NAN, 0])
            self.assertEqual(rr_transform(0, how, [INF, NEG_INF], []), [0, INF, NEG_INF])

    def test_of_two(self):
        x = halves(1, 2, 5, -3)
        for how in (0, 1):
            self.assertEqual(rr_transform(1, how, x, ONE_ROOT), [0] + halves(6, -1, -4, 5))
        self.assertEqual(rr_transform(1, 0, x, halves(2, 1)), [0] + halves(14, 1, -12, 3))
        self.assertEqual(rr_transform(1, 1, x, halves(2, 1)), [0] + halves(8, -9, -6, 13))

    def test_of_four(self):
        x = halves(1, 0, 2, 0, 3, 0, 4, 0)
        self.assertEqual(rr_transform(2, 0, x, TWO_ROOTS), [0] + halves(10, 0, -2, 2, -2, 0, -2, -2))
        self.assertEqual(rr_transform(2, 1, x, TWO_ROOTS), [0] + halves(10, 0, -2, -2, -2, 0, -2, 2))

    def test_of_eight_and_back(self):
        r = half(0.70703125)
        roots = halves(1, 0) + [r, reference.neg(r)] + halves(0, -1) + [reference.neg(r), reference.neg(r)]
        # Only even places: the roots that aren't exact are multiplied by 0.
        x = halves(1, 0, 0, 0, 2, 0, 0, 0, 3, 0, 0, 0, 4, 0, 0, 0)
        told = [0] + halves(10, 0, -2, 2, -2, 0, -2, -2) * 2
        self.assertEqual(rr_transform(3, 0, x, roots), told)
        back = rr_transform(3, 1, told[1:], roots)
        self.assertEqual(back, [0] + halves(8, 0, 0, 0, 16, 0, 0, 0, 24, 0, 0, 0, 32, 0, 0, 0))

    def test_the_number_of_the_root_and_the_order_of_places(self):
        for k in (1, 2, 3):
            roots = power_roots(k)
            values = [(2.0**j, 0.0) for j in range(2**(k - 1))]
            for place in range(2**k):
                x = [0] * (2 * 2**k)
                x[2 * place] = half(1)
                for how in (0, 1):
                    told = [0] + single(k, place, values)
                    self.assertEqual(rr_transform(k, how, x, roots), told, (k, place, how))

    def test_complex_roots_and_their_conjugates(self):
        values = [(1.0, 1.0), (2.0, -1.0), (0.5, 3.0), (-1.0, 2.0), (0.0, 1.0), (4.0, 0.0), (1.0, -2.0), (-3.0, -1.0)]
        turned = [(a, -b) for a, b in values]
        roots = [number for root in values for number in halves(*root)]
        for place in range(16):
            x = [0] * 32
            x[2 * place] = half(1)
            self.assertEqual(rr_transform(4, 0, x, roots), [0] + single(4, place, values))
            self.assertEqual(rr_transform(4, 1, x, roots), [0] + single(4, place, turned))

    def test_each_size(self):
        for k in range(11):
            x = row_of_middling(2**k, 20 + k)
            # Roots of magnitudes up to 1 or so, lest all be infinite at the end.
            roots = [bits - 0x1000 for bits in row_of_middling(2**k // 2, 40 + k)]
            self.both(k, x, roots, k)

    def test_halves_of_any_form(self):
        for k in range(1, 6):
            for seed in range(15):
                self.both(k, row_of_any(2**k, 60 + seed), row_of_any(2**(k - 1), 90 + seed))

    def test_two_roundings_of_what_is_added(self):
        for a, b, c, d, u, v, real, imaginary in TWO_STEPS:
            x, roots = [u, v, a, b], [c, d]
            lower = reference.added(0, (reference.neg(a), reference.neg(b)), (c, d), (u, v))
            self.assertEqual(rr_transform(1, 0, x, roots), [0, real, imaginary, *lower])
            self.assertEqual(rr_transform(1, 1, x, [c, reference.neg(d)]), [0, real, imaginary, *lower])
            # The same, with what is taken away as what is added.
            x = [u, v, reference.neg(a), reference.neg(b)]
            self.assertEqual(rr_transform(1, 0, x, roots), [0, *lower, real, imaginary])

    def test_a_root_of_one_multiplies_like_any_other(self):
        # 1 + 0 i by infinite: the imaginary part of that is infinite by 0.
        x = [INF, half(1), half(1), half(1)]
        self.assertEqual(rr_transform(1, 0, x, ONE_ROOT), [0, INF, half(2), INF, 0])
        x = [half(1), half(1), INF, half(1)]
        self.assertEqual(rr_transform(1, 0, x, ONE_ROOT), [0, INF, NAN, NEG_INF, NAN])
        x = [half(1), half(1), half(1), INF]
        self.assertEqual(rr_transform(1, 0, x, ONE_ROOT), [0, NAN, INF, NAN, NEG_INF])

    def test_infinite_parts(self):
        one = half(1)
        self.assertEqual(rr_transform(1, 0, [INF, INF, INF, one], halves(1, 1)), [0, INF, INF, NAN, NAN])
        self.assertEqual(rr_transform(1, 1, [INF, INF, INF, one], halves(1, 1)), [0, INF, NAN, NAN, INF])
        # An infinite root by a v of 0 is no number, even so.
        self.assertEqual(rr_transform(1, 0, halves(5, 5, 0, 0), [INF, 0]), [0, NAN, NAN, NAN, NAN])
        self.assertEqual(rr_transform(1, 0, halves(5, 5, 1, 1), [0, INF]), [0, NEG_INF, INF, INF, NEG_INF])
        self.assertEqual(rr_transform(1, 1, halves(5, 5, 1, 1), [0, NEG_INF]), [0, NEG_INF, INF, INF, NEG_INF])
        x = halves(1, 0, 1, 0) + [INF, 0] + halves(1, 0)
        self.both(2, x, halves(1, 1, 2, 3))

    def test_beyond_65520(self):
        x = halves(65504, 0, 16, 0)
        self.assertEqual(rr_transform(1, 0, x, ONE_ROOT), [0, INF, 0, half(65472), 0])
        x = halves(65504, -65504, 15.9921875, -15.9921875)
        self.assertEqual(rr_transform(1, 0, x, ONE_ROOT), [0] + halves(65504, -65504, 65504, -65504))

    def test_no_number_anywhere(self):
        ones = halves(1, 1) * 8
        for place in range(16):
            x = list(ones)
            x[place] = NAN_FORMS[127 * place]
            told = rr_transform(3, 0, x, halves(1, 1) * 4)
            # The number 0 is multiplied by no root, so its parts stay apart.
            other = place < 2
            self.assertEqual([number == NAN for number in told[1::2]], [not other or place == 0] * 8)
            self.assertEqual([number == NAN for number in told[2::2]], [not other or place == 1] * 8)
        for form in NAN_FORMS:
            self.assertEqual(rr_transform(1, 0, [form] + ones[:3], ONE_ROOT), [0, NAN, half(2), NAN, 0])
            self.assertEqual(rr_transform(1, 0, ones[:4], [half(1), form]), [0] + [NAN] * 4)
        # The root with the number 1 is used by the odd places of the last step alone.
        roots = halves(1, 1, 1, 1)
        roots[3] = NAN_FORMS[5]
        told = rr_transform(2, 0, ones[:8], roots)
        self.assertEqual([number == NAN for number in told[1:]], [False, False, True, True] * 2)

    def test_zeros_are_one_number(self):
        for code in range(16):
            x = [NEG_ZERO if code >> i & 1 else 0 for i in range(4)]
            for how in (0, 1):
                self.assertEqual(rr_transform(1, how, x, halves(1, -1)), [0, 0, 0, 0, 0])
        self.assertEqual(rr_transform(1, 0, halves(-1, 1, 1, -1), ONE_ROOT), [0, 0, 0] + halves(-2, 2))

    def test_small_ones_are_kept(self):
        x = halves(2.0**-24, 0, 2.0**-24, 2.0**-15)
        self.assertEqual(rr_transform(1, 0, x, ONE_ROOT), [0] + halves(2.0**-23, 2.0**-15, 0, -(2.0**-15)))
        self.assertEqual(rr_transform(1, 0, x, halves(0.5, 0)), [0, 2, 0x0100, 0, 0x8100])


if __name__ == "__main__":
    unittest.main()
