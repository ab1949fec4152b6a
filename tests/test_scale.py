"""rr_scale: each part times a power of 2, rounded once."""

import unittest

from halfradio.rows import rr_scale
from tests import reference
from tests.reference import INF, NAN, NAN_FORMS, NEG_INF, NEG_ZERO, difference, half, halves, row_of_any

KS = (-64, -63, -41, -40, -39, -25, -24, -10, -2, -1, 0, 1, 2, 10, 15, 16, 29, 30, 31, 39, 40, 41, 63, 64)


class Scale(unittest.TestCase):
    def one(self, k, bits, expected):
        """A part, in either place and on either side of 0."""
        other = 0 if expected == 0 else reference.neg(expected)
        self.assertEqual(rr_scale(1, k, [bits, reference.neg(bits)]), [0, expected, other], (k, bits))
        self.assertEqual(rr_scale(1, k, [reference.neg(bits), bits]), [0, other, expected], (k, bits))

    def test_ordinary(self):
        self.assertEqual(rr_scale(2, 3, halves(1, -2, 0.75, 100)), [0] + halves(8, -16, 6, 800))
        self.assertEqual(rr_scale(2, -3, halves(8, -16, 6, 800)), [0] + halves(1, -2, 0.75, 100))

    def test_none_at_all(self):
        for k in KS:
            self.assertEqual(rr_scale(0, k, []), [0])

    def test_any_k_and_length(self):
        for k in range(-64, 65):
            x = row_of_any(100, 300 + k)
            self.assertIsNone(difference(rr_scale(100, k, x), reference.rr_scale(k, x)), k)
        for n in (1, 2, 17, 4096):
            x = row_of_any(n, 5)
            for k in (-25, 3):
                self.assertIsNone(difference(rr_scale(n, k, x), reference.rr_scale(k, x)), n)

    def test_every_seventh_half(self):
        forms = list(range(0, 65536, 7))
        for k in (-25, -13, -1, 1, 40):
            for row in (forms[:4682], forms[4681:]):
                self.assertIsNone(difference(rr_scale(2341, k, row), reference.rr_scale(k, row)), k)

    def test_small_ones_at_every_k_below_0(self):
        # All parts below 2^-13 are tried where k is small, so that each tie is among them.
        row = list(range(2048)) + [bits + 0x8000 for bits in range(2048)]
        for k in (-1, -2, -3, -10, -11, -12):
            self.assertIsNone(difference(rr_scale(2048, k, row), reference.rr_scale(k, row)), k)

    def test_times_one_tells_each_as_it_is(self):
        for bits in (0x0001, 0x03FF, 0x0400, 0x3C00, 0x7BFF, INF):
            self.one(0, bits, bits)
        self.one(0, 0, 0)
        self.assertEqual(rr_scale(1, 0, [NEG_ZERO, 0xFC01]), [0, 0, NAN])

    def test_of_two_as_near_the_even_one(self):
        self.one(-1, 0x0001, 0)
        self.one(-1, 0x0003, 2)
        self.one(-1, 0x0005, 2)
        self.one(-1, 0x0007, 4)
        self.one(-1, 0x07FF, 0x0400)
        self.one(-1, 0x07FD, 0x03FE)
        self.one(-1, 0x0401, 0x0200)
        self.one(-2, 0x0002, 0)
        self.one(-2, 0x0003, 1)
        self.one(-2, 0x0006, 2)
        self.one(-25, half(1), 0)
        self.one(-25, half(3), 2)
        self.one(-25, half(5), 2)

    def test_below_the_least_half(self):
        self.one(-25, half(1 + 2.0**-10), 1)
        self.one(-25, half(1 - 2.0**-11), 0)
        self.one(-25, half(65504), half(2047 * 2.0**-20))
        self.one(-40, half(65504), 1)
        self.one(-40, half(32768), 0)
        self.one(-40, half(32800), 1)
        self.one(-41, half(65504), 0)
        self.one(-64, half(65504), 0)
        self.one(-64, half(1), 0)
        self.one(-64, 0x0001, 0)

    def test_below_2_to_minus_14_is_kept(self):
        self.one(-1, half(2.0**-14), 0x0200)
        self.one(-1, half(2.0**-13 + 2.0**-23), 0x0401)
        self.one(-15, half(1), 0x0200)
        self.one(-24, half(1), 1)
        self.one(-25, half(2), 1)
        self.one(1, 0x0001, 2)
        self.one(1, 0x03FF, 0x07FE)
        self.one(40, 0x0001, INF)
        self.one(39, 0x0001, half(32768))

    def test_at_65520(self):
        # No half times a power of 2 lies between 65504 and 65536.
        self.one(1, half(32752), half(65504))
        self.one(1, half(32768), INF)
        self.one(1, half(65504), INF)
        self.one(40, 0x0001, INF)
        self.one(29, half(2047 * 2.0**-24), half(65504))
        self.one(30, half(1023 * 2.0**-24), half(65472))
        self.one(30, half(1024 * 2.0**-24), INF)
        self.one(64, 0x0001, INF)
        self.one(64, half(65504), INF)

    def test_zeros(self):
        for k in KS:
            self.one(k, 0, 0)
            self.one(k, NEG_ZERO, 0)

    def test_infinite_parts_stay(self):
        for k in KS:
            self.assertEqual(rr_scale(1, k, [INF, NEG_INF]), [0, INF, NEG_INF])

    def test_no_number_stays(self):
        count = len(NAN_FORMS) // 2
        for k in KS:
            self.assertEqual(rr_scale(count, k, NAN_FORMS), [0] + [NAN] * len(NAN_FORMS))


if __name__ == "__main__":
    unittest.main()
