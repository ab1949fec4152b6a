"""rr_times, rr_more and rr_dot: what each answers of whole rows."""

import unittest

from halfradio.rows import rr_dot, rr_more, rr_times
from tests import reference
from tests.reference import INF, NAN, NAN_FORMS, NEG_INF, NEG_ZERO, TWO_STEPS
from tests.reference import difference, half, halves, row_of_any, row_of_middling

LENGTHS = (0, 1, 2, 15, 16, 17, 31, 32, 33, 48, 100, 257)


class Times(unittest.TestCase):
    def test_ordinary(self):
        x = halves(1, 2, -3, 0.5, 7, 0)
        y = halves(3, 4, 2, -2, 0.25, -1)
        self.assertEqual(rr_times(3, 0, x, y), [0] + halves(-5, 10, -5, 7, 1.75, -7))
        self.assertEqual(rr_times(3, 1, x, y), [0] + halves(11, 2, -7, -5, 1.75, 7))

    def test_none_at_all(self):
        self.assertEqual(rr_times(0, 0, [], []), [0])
        self.assertEqual(rr_times(0, 1, [], []), [0])

    def test_any_length(self):
        for n in LENGTHS + (4096,):
            x, y = row_of_any(n, 1), row_of_any(n, 2)
            z = row_of_middling(n, 3)
            for how in (0, 1):
                self.assertIsNone(difference(rr_times(n, how, x, y), reference.rr_times(how, x, y)))
                self.assertIsNone(difference(rr_times(n, how, z, y), reference.rr_times(how, z, y)))


class More(unittest.TestCase):
    def one(self, x, y, s, expected, how=0):
        self.assertEqual(rr_more(1, how, x, y, s), [0] + expected)

    def test_ordinary(self):
        x = halves(1, 2, -3, 0.5)
        y = halves(3, 4, 2, -2)
        s = halves(100, -100, 0.25, 8)
        self.assertEqual(rr_more(2, 0, x, y, s), [0] + halves(95, -90, -4.75, 15))
        self.assertEqual(rr_more(2, 1, x, y, s), [0] + halves(111, -98, -6.75, 3))

    def test_none_at_all(self):
        self.assertEqual(rr_more(0, 0, [], [], []), [0])
        self.assertEqual(rr_more(0, 1, [], [], []), [0])

    def test_any_length(self):
        for n in LENGTHS + (4096,):
            x, y, s = row_of_any(n, 4), row_of_any(n, 5), row_of_any(n, 6)
            u, v, w = row_of_middling(n, 7), row_of_middling(n, 8), row_of_middling(n, 9)
            for how in (0, 1):
                self.assertIsNone(difference(rr_more(n, how, x, y, s), reference.rr_more(how, x, y, s)))
                self.assertIsNone(difference(rr_more(n, how, u, v, w), reference.rr_more(how, u, v, w)))

    def test_of_two_as_near_the_even_one(self):
        one = halves(1, 0)
        self.one(one, one, halves(2048, 2050), halves(2048, 2050))
        self.one(halves(1, 1), one, halves(2048, 2050), halves(2048, 2052))
        self.one(halves(1, 1), one, halves(-2050, -2052), halves(-2048, -2052))

    def test_first_the_real_factor_then_the_imaginary(self):
        # Of 2048 + 1 + 1 the first 1 is lost, and so is the second; 1 + 1 + 2046 loses nothing.
        self.one(halves(1, -1), halves(1, 1), halves(2048, 0), halves(2048, 0))
        self.one(halves(1, 1), halves(1, 1), halves(0, 2048), halves(0, 2048))
        self.one(halves(2048, -1), halves(1, 1), halves(1, 0), [half(2048), half(2047)])
        self.one(halves(1, -2048), halves(1, 1), halves(1, 0), [half(2050), half(-2047)])

    def test_two_steps_differ_from_other_ways(self):
        for a, b, c, d, u, v, real, imaginary in TWO_STEPS:
            for other in other_sums(a, b, c, d, u, v):
                self.assertNotEqual(other[0], real)
                self.assertNotEqual(other[1], imaginary)
            self.one([a, b], [c, d], [u, v], [real, imaginary])
            self.one([a, b], [c, reference.neg(d)], [u, v], [real, imaginary], how=1)

    def test_small_ones_are_kept(self):
        x, y = halves(2.0**-14, -(2.0**-14)), halves(1, 0)
        self.one(x, y, halves(2.0**-24 - 2.0**-14, 2.0**-15), [0x0001, 0x8200])
        self.one(halves(2.0**-12, 0), halves(2.0**-13, 0), [0x0001, 0x8001], [0x0002, 0x8001])
        self.one(halves(2.0**-12, 0), halves(-(2.0**-13), 0), [0x0000, 0x0001], [0, 0x0001])

    def test_at_65520(self):
        x = halves(4, 0)
        top = half(65504)
        self.one(x, halves(4, 0), [top, top], [INF, top])
        self.one(x, halves(4 - 2.0**-9, 0), [top, top], [top, top])
        self.one(x, halves(0, 4), [top, top], [top, INF])
        self.one(x, halves(0, 4 - 2.0**-9), [top, top], [top, top])
        self.one(x, halves(-4, -4), halves(-65504, -65504), [NEG_INF, NEG_INF])
        self.one(x, halves(-4 + 2.0**-9, 0), halves(-65504, -65504), halves(-65504, -65504))
        # 65519.99.. needs more bits than a half has: rounded by itself the product were 16.
        self.one(halves(4 + 2.0**-8, 0), halves(4 - 2.0**-8, 0), [top, 0], [top, 0])

    def test_what_is_beyond_comes_back_by_what_it_is_added_to(self):
        self.one(halves(256, 0), halves(256, 0), halves(-65504, 0), halves(32, 0))

    def test_zeros_are_one_number(self):
        for code in range(64):
            row = [NEG_ZERO if code >> i & 1 else 0 for i in range(6)]
            for how in (0, 1):
                self.one(row[:2], row[2:4], row[4:], [0, 0], how=how)
        self.one(halves(1, -1), halves(1, 0), halves(-1, 1), [0, 0])

    def test_infinite_sums(self):
        one = halves(1, 0)
        self.one(one, one, [INF, NEG_INF], [INF, NEG_INF])
        self.one(halves(300, 0), halves(-300, -300), [INF, INF], [INF, INF])
        self.one([INF, half(1)], halves(1, 1), [NEG_INF, NEG_INF], [NAN, NAN])
        self.one([INF, half(1)], halves(1, 1), [INF, INF], [INF, INF])
        self.one([INF, 0], one, [NEG_INF, half(1)], [NAN, NAN])
        self.one([0, 0], [0, 0], [INF, NEG_INF], [INF, NEG_INF])
        self.one([0, 0], [INF, 0], halves(5, 5), [NAN, NAN])

    def test_every_form_that_is_no_number(self):
        count = len(NAN_FORMS)
        ones = halves(1, 1) * count
        sums = reference.flat((form, half(1)) for form in NAN_FORMS)
        told = [NAN, half(3)] * count
        self.assertIsNone(difference(rr_more(count, 0, ones, ones, sums), [0] + told))
        sums = reference.flat((half(1), form) for form in NAN_FORMS)
        told = [half(3), NAN] * count
        self.assertIsNone(difference(rr_more(count, 1, ones, ones, sums), [0] + told))


class Dot(unittest.TestCase):
    def reals(self, n, places, expected):
        """The sum of n real numbers that are 0 but at some places."""
        x = [0] * (2 * n)
        for place, number in places.items():
            x[2 * place] = half(number)
        ones = halves(1, 0) * n
        self.assertEqual(rr_dot(n, 0, x, ones), [0, half(expected), 0])
        self.assertEqual(rr_dot(n, 1, ones, x), [0, half(expected), 0])
        turned = [0] + x[:-1]
        self.assertEqual(rr_dot(n, 0, turned, ones), [0, 0, half(expected)])
        self.assertEqual(rr_dot(n, 1, ones, turned), [0, 0, half(-expected)])

    def test_ordinary(self):
        x = halves(1, 2, -3, 0.5, 7, 0)
        y = halves(3, 4, 2, -2, 0.25, -1)
        self.assertEqual(rr_dot(3, 0, x, y), [0] + halves(-8.25, 10))
        self.assertEqual(rr_dot(3, 1, x, y), [0] + halves(5.75, 4))

    def test_none_at_all(self):
        self.assertEqual(rr_dot(0, 0, [], []), [0, 0, 0])
        self.assertEqual(rr_dot(0, 1, [], []), [0, 0, 0])

    def test_any_length(self):
        for n in LENGTHS + (4096,):
            x, y = row_of_middling(n, 10), row_of_middling(n, 11)
            for how in (0, 1):
                self.assertEqual(rr_dot(n, how, x, y), reference.rr_dot(how, x, y))

    def test_halves_of_any_form(self):
        for n in range(1, 40):
            for seed in range(20):
                x, y = row_of_any(n, 100 * seed + n), row_of_any(n, 7000 + seed)
                self.assertEqual(rr_dot(n, seed % 2, x, y), reference.rr_dot(seed % 2, x, y))

    def test_sixteen_sums(self):
        self.reals(15, {0: 2048, 14: 1}, 2048)
        self.reals(16, {7: 2048, 14: 1, 15: 1}, 2048)
        self.reals(17, {0: 2048, 8: 1, 16: 1}, 2048)
        self.reals(17, {0: 1, 8: 2048, 16: 1}, 2050)
        self.reals(18, {0: 2048, 1: 1, 17: 1}, 2050)
        self.reals(33, {0: 1, 16: 1, 32: 2048}, 2050)
        self.reals(33, {0: 2048, 16: 1, 32: 1}, 2048)
        self.reals(34, {0: 2048, 17: 1, 33: 1}, 2050)

    def test_added_up_by_halves(self):
        self.reals(16, {0: 2048, 4: 1, 12: 1}, 2050)
        self.reals(16, {0: 2048, 4: 1, 8: 1}, 2048)
        self.reals(16, {0: 2048, 2: 1, 6: 1}, 2050)
        self.reals(16, {0: 2048, 2: 1, 4: 1}, 2048)
        self.reals(16, {0: 2048, 1: 1, 3: 1}, 2050)
        self.reals(16, {0: 2048, 1: 1, 2: 1}, 2048)
        self.reals(16, {7: 2048, 3: 1, 11: 1}, 2050)

    def test_the_order_shows(self):
        for n in (17, 33, 40, 100):
            shown = [False] * 4
            for seed in range(12, 24):
                x, y = row_of_middling(n, seed), row_of_middling(n, seed + 50)
                expected = reference.rr_dot(0, x, y)
                self.assertEqual(rr_dot(n, 0, x, y), expected)
                shown = [was or [0, *other] != expected for was, other in zip(shown, other_orders(x, y))]
            self.assertEqual(shown, [True] * 4, n)

    def test_sums_round_once(self):
        # Of fma(1 + 2^-10, 1 - 2^-10, 2050) the product were 1 by itself, and the sum 2052.
        x, y = [0] * 34, [0] * 34
        x[0], y[0] = half(2050), half(1)
        x[32], y[32] = half(1 + 2.0**-10), half(1 - 2.0**-10)
        self.assertEqual(rr_dot(17, 0, x, y), [0, half(2050), 0])

    def test_sums_at_65520(self):
        self.assertEqual(self.of_two(65504, 16), [0, INF, 0])
        self.assertEqual(self.of_two(65504, 16 - 2.0**-7), [0, half(65504), 0])
        self.assertEqual(self.of_two(-65504, -16), [0, NEG_INF, 0])
        self.assertEqual(self.of_two(-65504, -16 + 2.0**-7), [0, half(-65504), 0])

    def test_sums_of_small_ones(self):
        self.assertEqual(self.of_two(2.0**-14, -(2.0**-24)), [0, 0x03FF, 0])
        self.assertEqual(self.of_two(-(2.0**-14), 2.0**-14), [0, 0, 0])
        self.assertEqual(self.of_two(2.0**-24, 2.0**-24), [0, 0x0002, 0])

    def of_two(self, u, v):
        return rr_dot(2, 0, halves(u, 0, v, 0), halves(1, 0, 1, 0))

    def test_an_infinite_sum_stays_infinite(self):
        for n, places in ((16, (0, 8)), (32, (3, 19)), (2, (0, 1))):
            self.assertEqual(self.beyond(n, places, -1), [0, INF, 0])
        # Within one sum -65536 is a finite product; as a sum of its own it is infinite.
        self.assertEqual(self.beyond(32, (3, 19), -256), [0, INF, 0])
        self.assertEqual(self.beyond(32, (3, 20), -256), [0, NAN, 0])
        self.assertEqual(self.beyond(16, (0, 8), -256), [0, NAN, 0])

    def beyond(self, n, places, factor):
        """Of n numbers that are 0 but at two places: there 256 by 256, and 256 by a factor."""
        x, y = [0] * (2 * n), [0] * (2 * n)
        for place, number in zip(places, (256, factor)):
            x[2 * place], y[2 * place] = half(256), half(number)
        return rr_dot(n, 0, x, y)

    def test_infinite_less_infinite(self):
        one = half(1)
        ones = [one, one]
        for n in (2, 9, 17):
            x = [INF, one] + [0, 0] * (n - 2) + [NEG_INF, one]
            self.assertEqual(rr_dot(n, 0, x, ones * n), [0, NAN, NAN])
            x = [INF, one] + [0, 0] * (n - 2) + [INF, one]
            self.assertEqual(rr_dot(n, 0, x, ones * n), [0, INF, INF])

    def test_no_number_anywhere(self):
        for n in (1, 15, 16, 17, 33):
            for place in range(2 * n):
                x, y = halves(1, 1) * n, halves(1, 1) * n
                x[place] = NAN_FORMS[(37 * place) % len(NAN_FORMS)]
                self.assertEqual(rr_dot(n, 0, x, y), [0, NAN, NAN])
                self.assertEqual(rr_dot(n, 1, y, x), [0, NAN, NAN])


def other_sums(a, b, c, d, u, v):
    """Ways to add a product to a sum that round otherwise, or in another order."""
    fma, add, neg = reference.fma, reference.add, reference.neg
    e = [reference.Fraction(reference.value(part)) for part in (a, b, c, d, u, v)]
    ac, bd, ad, bc = fma(a, c, 0), fma(b, d, 0), fma(a, d, 0), fma(b, c, 0)
    real, imaginary = reference.times(0, (a, b), (c, d))
    return [
        (reference.nearest(e[0] * e[2] - e[1] * e[3] + e[4]), reference.nearest(e[0] * e[3] + e[1] * e[2] + e[5])),
        (add(real, u), add(imaginary, v)),
        (fma(a, c, fma(neg(b), d, u)), fma(b, c, fma(a, d, v))),
        (add(add(u, ac), neg(bd)), add(add(v, bc), ad)),
    ]


def other_orders(x, y):
    """Sums of the same products that are added up otherwise."""
    xs, ys = reference.pairs(x), reference.pairs(y)
    straight = (0, 0)
    for p, q in zip(xs, ys):
        straight = reference.added(0, p, q, straight)
    sums = reference.dot_sums(0, x, y)
    backwards = reference.dot_sums(0, reference.flat(reversed(xs)), reference.flat(reversed(ys)))
    return [straight, one_by_one(sums), by_neighbours(sums), by_neighbours(backwards)]


def one_by_one(sums):
    total = (0, 0)
    for s in sums:
        total = (reference.add(total[0], s[0]), reference.add(total[1], s[1]))
    return total


def by_neighbours(sums):
    while len(sums) > 1:
        sums = [one_by_one(sums[i:i + 2]) for i in range(0, len(sums), 2)]
    return sums[0]


if __name__ == "__main__":
    unittest.main()
