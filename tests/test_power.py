"""rr_power: the sum of the parts' squares, in thirty-two sums."""

import unittest

from halfradio.rows import rr_power
from tests import reference
from tests.reference import INF, NAN, NAN_FORMS, NEG_INF, NEG_ZERO, half, halves, row_of_any, row_of_middling

LENGTHS = (0, 1, 2, 15, 16, 17, 31, 32, 33, 34, 48, 100, 257, 4096)


class Power(unittest.TestCase):
    def parts(self, n, places, expected):
        """Of n complex halves that are 0 but for some parts."""
        x = [0] * (2 * n)
        for place, number in places.items():
            x[place] = half(number)
        self.assertEqual(rr_power(n, x), [0, half(expected)], places)
        negative = [reference.neg(bits) for bits in x]
        self.assertEqual(rr_power(n, negative), [0, half(expected)], places)

    def test_ordinary(self):
        self.assertEqual(rr_power(1, halves(3, 4)), [0, half(25)])
        self.assertEqual(rr_power(1, halves(-3, -4)), [0, half(25)])
        self.assertEqual(rr_power(3, halves(1, -2, 0.5, 0, -7, 3)), [0, half(63.25)])
        self.assertEqual(rr_power(17, halves(1, 2) * 17), [0, half(85)])

    def test_none_at_all(self):
        self.assertEqual(rr_power(0, []), [0, 0])

    def test_any_length(self):
        for n in LENGTHS:
            for seed in (1, 2, 3):
                x = row_of_middling(n, seed)
                self.assertEqual(rr_power(n, x), reference.rr_power(x), n)

    def test_halves_of_any_form(self):
        for n in range(1, 40):
            for seed in range(10):
                x = [bits & 0xBFFF for bits in row_of_any(n, 100 * seed + n)]
                self.assertEqual(rr_power(n, x), reference.rr_power(x))

    # Beside 1024 = 32^2 a single 0.625^2 is lost, but two that were added up before count as 1.

    def test_thirty_two_sums(self):
        for shift in (0, 1):
            self.parts(1, {0: 32, 1: 0.625}, 1024)
            self.parts(16, {shift: 32, 30 + shift: 0.625}, 1024)
            self.parts(17, {shift: 32, 16 + shift: 0.625, 32 + shift: 0.625}, 1024)
            self.parts(17, {shift: 0.625, 16 + shift: 32, 32 + shift: 0.625}, 1025)
            self.parts(18, {shift: 32, 2 + shift: 0.625, 34 + shift: 0.625}, 1025)
            self.parts(33, {shift: 0.625, 32 + shift: 0.625, 64 + shift: 32}, 1025)
            self.parts(33, {shift: 32, 32 + shift: 0.625, 64 + shift: 0.625}, 1024)
            self.parts(34, {shift: 32, 34 + shift: 0.625, 66 + shift: 0.625}, 1025)

    def test_real_and_imaginary_parts_have_sums_of_their_own(self):
        self.parts(17, {0: 32, 1: 0.625, 33: 0.625}, 1025)
        self.parts(17, {1: 32, 0: 0.625, 32: 0.625}, 1025)
        self.parts(17, {0: 32, 1: 0.625, 32: 0.625}, 1024)

    def test_added_up_by_halves(self):
        self.parts(16, {0: 32, 8: 0.625, 24: 0.625}, 1025)
        self.parts(16, {0: 32, 8: 0.625, 16: 0.625}, 1024)
        self.parts(16, {0: 32, 4: 0.625, 12: 0.625}, 1025)
        self.parts(16, {0: 32, 4: 0.625, 8: 0.625}, 1024)
        self.parts(16, {0: 32, 2: 0.625, 6: 0.625}, 1025)
        self.parts(16, {0: 32, 2: 0.625, 4: 0.625}, 1024)
        self.parts(16, {0: 32, 1: 0.625, 3: 0.625}, 1025)
        self.parts(16, {0: 32, 1: 0.625, 2: 0.625}, 1024)
        self.parts(16, {15: 32, 7: 0.625, 23: 0.625}, 1025)
        self.parts(16, {31: 32, 30: 0.625, 14: 0.625}, 1025)

    def test_the_order_shows(self):
        for n in (16, 17, 33, 40, 100, 4096):
            shown = [False] * 4
            for seed in range(12, 24):
                x = row_of_middling(n, seed)
                if n == 4096:
                    # A 32nd of each, lest the sum be infinite.
                    x = [bits - 0x1400 for bits in x]
                expected = reference.rr_power(x)
                self.assertEqual(rr_power(n, x), expected)
                shown = [was or [0, other] != expected for was, other in zip(shown, other_orders(x))]
            self.assertEqual(shown, [True] * 4, n)

    def test_each_step_rounds_once(self):
        # 2.44921875^2 is just below 6, but is 6 once rounded by itself, and 4102 as near to 4104 as to 4100.
        self.parts(17, {0: 64, 32: 2.44921875}, 4100)
        self.parts(17, {1: 64, 33: 2.44921875}, 4100)

    def test_small_ones_are_kept(self):
        self.parts(1, {0: 2.0**-12}, 2.0**-24)
        self.parts(1, {1: 2.0**-12}, 2.0**-24)
        self.parts(1, {0: 2.0**-12, 1: 2.0**-12}, 2.0**-23)
        self.parts(1, {0: 2.0**-13}, 0)
        self.parts(17, {0: 1.5 * 2.0**-13, 32: 1.5 * 2.0**-13}, 2.0**-23)
        self.parts(1, {0: 2.0**-24}, 0)
        self.parts(1, {0: 2.0**-7}, 2.0**-14)

    def test_at_65520(self):
        self.assertEqual(rr_power(1, halves(256, 0)), [0, INF])
        self.assertEqual(rr_power(1, halves(255.875, 0)), [0, half(65472)])
        self.assertEqual(rr_power(1, halves(255.875, 5)), [0, half(65504)])
        self.assertEqual(rr_power(1, halves(255.875, 7)), [0, INF])
        # Beside 65472, which 255.875^2 is once rounded, the bound lies at 48.
        self.assertEqual(rr_power(17, halves(255.875) + [0] * 31 + halves(6.75, 0)), [0, half(65504)])
        self.assertEqual(rr_power(17, halves(255.875) + [0] * 31 + halves(7, 0)), [0, INF])

    def test_infinite_parts(self):
        for infinite in (INF, NEG_INF):
            for place in (0, 1, 33, 66, 67):
                x = halves(1, -2) * 34
                x[place] = infinite
                self.assertEqual(rr_power(34, x), [0, INF])
        self.assertEqual(rr_power(2, [INF, NEG_INF, NEG_INF, INF]), [0, INF])
        self.assertEqual(rr_power(17, [INF, 0] + [0] * 30 + [NEG_INF, 0]), [0, INF])

    def test_no_number_anywhere(self):
        for n in (1, 15, 16, 17, 33):
            for place in range(2 * n):
                x = halves(1, 1) * n
                x[place] = NAN_FORMS[(37 * place) % len(NAN_FORMS)]
                self.assertEqual(rr_power(n, x), [0, NAN])
                x[(place + 1) % (2 * n)] = INF
                self.assertEqual(rr_power(n, x), [0, NAN])

    def test_every_form_that_is_no_number(self):
        for form in NAN_FORMS:
            self.assertEqual(rr_power(1, [0, form]), [0, NAN])

    def test_zeros_are_one_number(self):
        for x in ([0, NEG_ZERO], [NEG_ZERO, 0], [NEG_ZERO, NEG_ZERO]):
            self.assertEqual(rr_power(1, x), [0, 0])
            self.assertEqual(rr_power(20, x * 20), [0, 0])


def other_orders(x):
    """Sums of the same squares that are added up otherwise."""
    straight = 0
    for bits in x:
        straight = reference.fma(bits, bits, straight)
    sums = reference.power_sums(x)
    apart = sums[0::2] + sums[1::2]
    return [straight, one_by_one(sums), by_neighbours(sums), folded(apart)]


def one_by_one(sums):
    total = 0
    for s in sums:
        total = reference.add(total, s)
    return total


def by_neighbours(sums):
    while len(sums) > 1:
        sums = [reference.add(sums[i], sums[i + 1]) for i in range(0, len(sums), 2)]
    return sums[0]


def folded(sums):
    while len(sums) > 1:
        middle = len(sums) // 2
        sums = [reference.add(sums[i], sums[i + middle]) for i in range(middle)]
    return sums[0]


if __name__ == "__main__":
    unittest.main()
