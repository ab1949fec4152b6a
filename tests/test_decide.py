"""rr_decide: which bits a point tells, by how it came."""

import unittest

from halfradio.rows import rr_decide, rr_points, rr_times
from tests import reference
from tests.reference import INF, NAN_FORMS, NEG_INF, NEG_ZERO, difference, half, halves, row_of_any, row_of_middling
from tests.test_points import OUTSIDE_Q, UNITS, WRONG_UNITS, every_point

ONE = half(1)
TABLES = {
    1: ["0", "1"],
    2: ["00", "01", "11", "10"],
    3: ["000", "001", "011", "010", "110", "111", "101", "100"],
}
# unit, h and a part near the last bound, with how many bounds aren't above it; other roundings tell another number.
ROUNDED_BOUNDS = (
    (0x43FF, 0x3F97, 0x51B0, 7),
    (0x43FE, 0x4334, 0x5565, 7),
    (0x43FE, 0x3C90, 0x4ED5, 7),
)


def exact(half_bits):
    return reference.Fraction(reference.value(half_bits))


def other_bounds(unit, h):
    """The last bound of q 6, with a rounding left out or at another place."""
    g = reference.square((h, 0))
    first = reference.fma(unit, half(6), 0)
    return [
        exact(g) * exact(first),
        exact(reference.nearest(exact(g) * exact(unit) * 6)),
        exact(g) * exact(unit) * 6,
        exact(reference.nearest(exact(h)**2 * exact(first))),
        exact(reference.fma(reference.fma(g, unit, 0), half(6), 0)),
    ]


def bits(text):
    return [int(sign) for sign in text]


def below(half_bits):
    """The half next to another one, downwards."""
    if half_bits == 0:
        return 0x8001
    return half_bits + 1 if half_bits & 0x8000 else half_bits - 1


def above(half_bits):
    return reference.neg(below(reference.neg(half_bits))) if half_bits != 0 else 0x0001


class Decide(unittest.TestCase):
    def axis(self, q, unit, h, part, code):
        """A part as the real one, and as the imaginary one beside the lowest level; h is real."""
        width = 1 if q == 1 else q // 2
        lowest = half(-60000)
        text = TABLES[width][code]
        low = TABLES[width][0]
        if q == 1:
            self.assertEqual(rr_decide(1, q, unit, [h, 0], [part, lowest]), [0] + bits(text), (part, code))
            return
        self.assertEqual(rr_decide(1, q, unit, [h, 0], [part, lowest]), [0] + bits(text + low), (part, code))
        self.assertEqual(rr_decide(1, q, unit, [h, 0], [lowest, part]), [0] + bits(low + text), (part, code))

    def test_ordinary(self):
        h = halves(1, 0)
        self.assertEqual(rr_decide(3, 1, ONE, h * 3, halves(0.5, 9, -0.5, 9, 3, 0)), [0, 1, 0, 1])
        self.assertEqual(rr_decide(2, 2, ONE, h * 2, halves(0.5, -1, -0.5, 2)), [0, 1, 0, 0, 1])
        self.assertEqual(rr_decide(2, 4, ONE, h * 2, halves(3, -1, 1.5, -2.5)), [0, 1, 0, 0, 1, 1, 1, 0, 0])
        self.assertEqual(rr_decide(1, 6, ONE, h, halves(5.5, -3)), [0, 1, 0, 1, 0, 1, 1])

    def test_none_at_all(self):
        for q in (1, 2, 4, 6):
            self.assertEqual(rr_decide(0, q, ONE, [], []), [0])

    def test_h_turns_and_stretches(self):
        # By h = 2 i a point lies at 2 i of its place; its bits are told as if it hadn't moved.
        for q in (1, 2, 4, 6):
            for point in every_point(q):
                x = rr_points(1, q, ONE, point)[1:]
                for h in (halves(0, 2), halves(-1, 0), halves(0, -0.5), halves(3, 4), halves(-0.25, 2)):
                    came = rr_times(1, 0, x, h)[1:]
                    self.assertEqual(rr_decide(1, q, ONE, h, came), [0] + point)

    def test_below_at_and_above_each_bound(self):
        for q in (1, 2, 4, 6):
            count = 2 if q == 1 else 2**(q // 2)
            for unit in (ONE, half(0.25), half(3), half(2.0**-14), half(4096)):
                for j in range(1, count):
                    bound = half(reference.value(unit) * (2 * j - count))
                    self.axis(q, unit, ONE, below(bound), j - 1)
                    self.axis(q, unit, ONE, bound, j)
                    self.axis(q, unit, ONE, above(bound), j)

    def test_both_products_of_a_bound_are_rounded(self):
        # unit 1 + 2^-10 by 6 is 6 + 6 2^-10, a tie that goes to 6 + 8 2^-10.
        step = 2.0**-10
        self.axis(6, ONE + 1, ONE, half(6 + 4 * step), 6)
        self.axis(6, ONE + 1, ONE, half(6 + 8 * step), 7)
        for unit, h, part, code in ROUNDED_BOUNDS:
            y = reference.fma(part, h, 0)
            for other in other_bounds(unit, h):
                self.assertEqual(other <= exact(y), code == 6)
            self.assertEqual(rr_decide(1, 6, unit, [h, 0], [part, 0])[1:4], bits(TABLES[3][code]))

    def test_zeros_are_not_above_each_other(self):
        for zero in (0, NEG_ZERO):
            self.assertEqual(rr_decide(1, 1, ONE, [ONE, 0], [zero, 0]), [0, 1])
            self.assertEqual(rr_decide(1, 2, ONE, [ONE, zero], [zero, zero]), [0, 1, 1])
            self.assertEqual(rr_decide(1, 4, ONE, [ONE, zero], [zero, zero]), [0, 1, 1, 1, 1])

    def test_h_of_0(self):
        # Each bound is 0 then, and so is y.
        for h in ([0, 0], [NEG_ZERO, 0], [0, NEG_ZERO], [0x0001, 0]):
            for q, told in ((1, "1"), (2, "11"), (4, "1010"), (6, "100100")):
                self.assertEqual(rr_decide(1, q, ONE, h, halves(1, 1)), [0] + bits(told))
        self.assertEqual(rr_decide(1, 4, ONE, [0, 0], [INF, half(1)]), [0, 0, 0, 0, 0])

    def test_h_infinite(self):
        # The middle bound is 0 by infinite, no number; the others are infinite.
        for h, g_told in (([INF, half(1)], "1111"), ([NEG_INF, half(1)], "0101")):
            self.assertEqual(rr_decide(1, 4, ONE, h, halves(1, 1)), [0] + bits(g_told))
        self.assertEqual(rr_decide(1, 1, ONE, [INF, half(1)], halves(1, 1)), [0, 0])
        self.assertEqual(rr_decide(1, 2, ONE, [INF, half(1)], halves(1, 1)), [0, 0, 0])
        self.assertEqual(rr_decide(1, 6, ONE, [INF, half(1)], halves(1, 1)), [0] + bits("101101"))
        # A square that is infinite by its size alone.
        self.assertEqual(rr_decide(1, 4, ONE, halves(300, 0), halves(1, -1)), [0] + bits("0101"))
        self.assertEqual(rr_decide(1, 4, ONE, halves(300, 0), halves(300, -300)), [0] + bits("1101"))

    def test_h_that_is_no_number(self):
        for form in NAN_FORMS:
            self.assertEqual(rr_decide(1, 4, ONE, [form, 0], halves(3, 3)), [0, 0, 0, 0, 0])
        for q in (1, 2, 4, 6):
            for h in ([0x7C01, 0], [0, 0xFFFF], [0x7E00, 0x7E00]):
                self.assertEqual(rr_decide(1, q, ONE, h, halves(3, 3)), [0] + [0] * q)

    def test_x_infinite_or_no_number(self):
        one = [half(1), half(0.5)]
        self.assertEqual(rr_decide(1, 4, ONE, one, [INF, half(1)]), [0] + bits("1000"))
        self.assertEqual(rr_decide(1, 4, ONE, one, [NEG_INF, half(1)]), [0] + bits("0010"))
        self.assertEqual(rr_decide(1, 4, ONE, one, [INF, NEG_INF]), [0] + bits("0000"))
        self.assertEqual(rr_decide(1, 6, ONE, one, [INF, INF]), [0] + bits("100000"))
        for form in NAN_FORMS[::50]:
            self.assertEqual(rr_decide(1, 4, ONE, one, [form, half(3)]), [0, 0, 0, 0, 0])

    def test_each_unit(self):
        for unit in UNITS:
            for q in (1, 2, 4, 6):
                every = [bit for point in every_point(q) for bit in point]
                x = rr_points(2**q, q, unit, every)[1:]
                self.assertEqual(rr_decide(2**q, q, unit, halves(1, 0) * 2**q, x), [0] + every)

    def test_any_row(self):
        for q in (1, 2, 4, 6):
            for n in (1, 2, 17, 300):
                for unit in UNITS:
                    h, x = row_of_any(n, n + q), row_of_any(n, n + q + 50)
                    self.assertIsNone(difference(rr_decide(n, q, unit, h, x), reference.rr_decide(q, unit, h, x)))
            h, x = row_of_middling(1000, q), row_of_middling(1000, q + 90)
            self.assertIsNone(difference(rr_decide(1000, q, ONE, h, x), reference.rr_decide(q, ONE, h, x)))

    def test_n_q_and_unit_are_refused(self):
        for n in (-1, 4097, -2147483648, 2147483647):
            self.assertEqual(rr_decide(n, 2, ONE, [], []), [-2])
            for q in OUTSIDE_Q:
                self.assertEqual(rr_decide(n, q, ONE, [], []), [-2])
            for unit in WRONG_UNITS:
                self.assertEqual(rr_decide(n, 2, unit, [], []), [-2])
        one = halves(1, 1)
        for q in OUTSIDE_Q:
            self.assertEqual(rr_decide(1, q, ONE, one, one), [-2])
            self.assertEqual(rr_decide(1, q, 0, one, one), [-2])
        for unit in WRONG_UNITS + NAN_FORMS:
            self.assertEqual(rr_decide(1, 2, unit, one, one), [-2])
            self.assertEqual(rr_decide(0, 2, unit, [], []), [-2])


if __name__ == "__main__":
    unittest.main()
