"""rr_points: bits as points, by Gray's code."""

import itertools
import unittest

from halfradio.rows import rr_points
from tests import reference
from tests.reference import LEVELS, NAN_FORMS, difference, half, halves, row_of_any

ONE = half(1)
LEAST, GREATEST = half(2.0**-14), half(4096)
UNITS = (LEAST, LEAST + 1, half(0.25), ONE, ONE + 1, half(1.5), half(1000), GREATEST - 1, GREATEST)
WRONG_UNITS = [0, 0x8000, 1, 0x8001, 0x03FF, half(4096) + 1, half(65504), half(-1), 0x8400, 0xEC00, 0x7C00, 0xFC00]
OUTSIDE_Q = (-2147483648, -6, -1, 0, 3, 5, 7, 8, 12, 2147483647)


def every_point(q):
    """The bits of each point that q bits may tell."""
    return [list(bits) for bits in itertools.product((0, 1), repeat=q)]


class Points(unittest.TestCase):
    def test_ordinary(self):
        self.assertEqual(rr_points(3, 1, ONE, [0, 1, 1]), [0] + halves(-1, 0, 1, 0, 1, 0))
        self.assertEqual(rr_points(2, 2, half(2), [0, 1, 1, 0]), [0] + halves(-2, 2, 2, -2))
        self.assertEqual(rr_points(2, 4, ONE, [0, 0, 0, 1, 1, 1, 1, 0]), [0] + halves(-3, -1, 1, 3))
        bits = [0, 0, 0, 1, 0, 0, 0, 1, 0, 1, 1, 1]
        self.assertEqual(rr_points(2, 6, half(0.5), bits), [0] + halves(-3.5, 3.5, -0.5, 1.5))

    def test_none_at_all(self):
        for q in (1, 2, 4, 6):
            self.assertEqual(rr_points(0, q, ONE, []), [0])

    def test_one_bit_has_one_axis(self):
        self.assertEqual(rr_points(1, 1, half(3), [0]), [0] + halves(-3, 0))
        self.assertEqual(rr_points(1, 1, half(3), [1]), [0] + halves(3, 0))

    def test_every_point_by_one(self):
        for q in (2, 4, 6):
            levels = LEVELS[q // 2]
            for bits in every_point(q):
                text = "".join(map(str, bits))
                told = halves(levels[text[:q // 2]], levels[text[q // 2:]])
                self.assertEqual(rr_points(1, q, ONE, bits), [0] + told, bits)

    def test_neighbours_differ_in_one_bit(self):
        axis = [bits for bits in every_point(6) if bits[3:] == [0, 0, 0]]
        axis.sort(key=lambda bits: reference.value(rr_points(1, 6, ONE, bits)[1]))
        for one, other in zip(axis, axis[1:]):
            self.assertEqual(sum(u != v for u, v in zip(one, other)), 1)

    def test_every_point_by_each_unit(self):
        for unit in UNITS:
            for q in (1, 2, 4, 6):
                bits = [bit for point in every_point(q) for bit in point]
                told = rr_points(2**q, q, unit, bits)
                self.assertIsNone(difference(told, reference.rr_points(q, unit, bits)), (unit, q))

    def test_the_least_and_the_greatest_unit(self):
        bits = [1, 0, 0, 0, 0, 0]
        self.assertEqual(rr_points(1, 6, half(2.0**-14), bits), [0] + halves(7 * 2.0**-14, -7 * 2.0**-14))
        self.assertEqual(rr_points(1, 6, half(4096), bits), [0] + halves(28672, -28672))
        self.assertEqual(rr_points(1, 2, half(4096), [1, 0]), [0] + halves(4096, -4096))

    def test_levels_are_rounded(self):
        # By 1 + 2^-10: 3 of it lie in the middle of two, 5 and 7 beside it.
        unit = ONE + 1
        step = 2.0**-10
        self.assertEqual(rr_points(1, 4, unit, [1, 0, 0, 0]), [0] + halves(3 + 4 * step, -3 - 4 * step))
        self.assertEqual(rr_points(1, 6, unit, [1, 0, 1, 1, 0, 0]), [0] + halves(5 + 4 * step, 7 + 8 * step))
        self.assertEqual(rr_points(1, 6, unit, [0, 0, 1, 0, 0, 0]), [0] + halves(-5 - 4 * step, -7 - 8 * step))
        # By 1 + 3 2^-10, 3 of it lie in the middle of two again, but the even one is below.
        self.assertEqual(rr_points(1, 4, ONE + 3, [1, 0, 0, 1]), [0] + halves(3 + 8 * step, -1 - 3 * step))

    def test_many(self):
        for q in (1, 2, 4, 6):
            for n in (1, 2, 17, 300, 4096):
                bits = [number & 1 for number in row_of_any(q * n, n)][:q * n]
                unit = UNITS[n % len(UNITS)]
                self.assertIsNone(difference(rr_points(n, q, unit, bits), reference.rr_points(q, unit, bits)), (q, n))

    def test_n_is_refused(self):
        for n in (-1, 4097, -2147483648, 2147483647):
            for q in (1, 2, 4, 6):
                self.assertEqual(rr_points(n, q, ONE, []), [-2])

    def test_q_is_refused(self):
        for q in OUTSIDE_Q:
            for n in (0, 1, 4096):
                self.assertEqual(rr_points(n, q, ONE, []), [-2], q)

    def test_unit_is_refused(self):
        for unit in WRONG_UNITS + NAN_FORMS:
            self.assertEqual(rr_points(1, 2, unit, [0, 1]), [-2], unit)
            self.assertEqual(rr_points(0, 1, unit, []), [-2], unit)

    def test_a_bit_is_refused(self):
        for q in (1, 2, 4, 6):
            for n in (1, 3, 4096):
                for place in (0, q * n // 2, q * n - 1):
                    for bit in (2, 3, 255):
                        bits = [0, 1] * (q * n // 2) + [1] * (q * n % 2)
                        bits[place] = bit
                        self.assertEqual(rr_points(n, q, ONE, bits), [-5], (q, n, place, bit))
        for bit in range(2, 256):
            self.assertEqual(rr_points(1, 1, ONE, [bit]), [-5])

    def test_a_unit_and_a_bit_are_refused(self):
        for unit in WRONG_UNITS + NAN_FORMS[::100]:
            for bits in ([2, 0], [0, 255], [2, 2]):
                self.assertEqual(rr_points(1, 2, unit, bits), [-2])

    def test_two_numbers_are_refused(self):
        for n in (-1, 4097):
            for unit in WRONG_UNITS:
                self.assertEqual(rr_points(n, 2, unit, []), [-2])
                self.assertEqual(rr_points(n, 3, unit, []), [-2])
            for q in OUTSIDE_Q:
                self.assertEqual(rr_points(n, q, ONE, []), [-2])


if __name__ == "__main__":
    unittest.main()
