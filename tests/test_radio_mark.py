"""rd_mark: where the mark stands."""

import unittest

from tests import reference
from tests.line import fed, pieces, rd_frame, rd_mark, rd_open, told
from tests.reference import INF, NAN_FORMS, NEG_INF, NEG_ZERO, half, halves, row_of_any, row_of_middling
from tests.reference_radio import Frame, Radio
from tests.test_calls import ENDS

ONE = half(1)
# A frame of eight samples, of which nothing is asked here.
FRAME = Frame(2, 0, 2, 1, ONE, halves(1, 0, 0, -1), [0], halves(1, 0))


class Mark(unittest.TestCase):
    def marks(self, mark, like, x, taps=None):
        """How many marks are found; the samples are kept as they are, but where taps say otherwise."""
        radio = Radio(mark=mark, like=like, frame=FRAME)
        radio.taps = taps or radio.taps
        numbers, bits = radio.received(x)
        self.assertEqual(fed(radio, [x]), ([0] + numbers, bits))
        return numbers[2]

    def stands(self, mark, like, x, taps=None):
        """Whether the mark stands in just as many samples as it has."""
        self.assertEqual(len(x), len(mark))
        return self.marks(mark, like, x, taps) == 1

    def test_ordinary(self):
        mark = halves(1, 1, -1, 1, 2, 0)
        # By itself the mark's c is 8, its square 64; e is 8.
        self.assertTrue(self.stands(mark, half(8), mark))
        self.assertFalse(self.stands(mark, half(8) + 1, mark))
        self.assertTrue(self.stands(mark, half(8), halves(0.5, 0.5, -0.5, 0.5, 1, 0)))
        self.assertTrue(self.stands(mark, half(8), halves(-1, 1, -1, -1, 0, 2)))
        self.assertFalse(self.stands(mark, half(8), halves(1, 1, 1, 1, 2, 0)))
        self.assertTrue(self.stands(mark, half(1), halves(1, 1, 1, 1, 2, 0)))

    def test_by_the_conjugate(self):
        self.assertTrue(self.stands(halves(0, 1, 1, 0), half(2), halves(0, 1, 1, 0)))
        self.assertFalse(self.stands(halves(0, 1, 1, 0), half(2), halves(0, -1, 1, 0)))
        self.assertFalse(self.stands(halves(0, 1, 1, 0), 0, halves(0, -1, 1, 0)))

    def test_like_0(self):
        for like in (0, NEG_ZERO):
            self.assertTrue(self.stands(halves(1, 0), like, halves(1, 0)))
            self.assertTrue(self.stands(halves(1, 0), like, halves(0, -0.25)))
            # Small ones count as long as the square isn't 0.
            self.assertTrue(self.stands(halves(1, 0), like, halves(2.0**-12, 0)))
            self.assertFalse(self.stands(halves(1, 0), like, halves(2.0**-13, 0)))
            self.assertFalse(self.stands(halves(1, 0), like, halves(0, 0)))
            self.assertFalse(self.stands(halves(0, 0), like, halves(1, 1)))

    def test_a_square_of_0(self):
        for like in (0, 1, ONE, INF):
            self.assertFalse(self.stands(halves(1, 0, 1, 0), like, halves(1, 0, -1, 0)))
            self.assertFalse(self.stands(halves(1, 0), like, halves(0, 0)))
            self.assertFalse(self.stands(halves(1, 0), like, halves(2.0**-13, 2.0**-13)))

    def test_of_common_size(self):
        # 3 + 4 i by 1: the square is 25, and so is e.
        for like, stands in ((ONE - 1, True), (ONE, True), (ONE + 1, False), (half(2), False), (half(0.5), True)):
            self.assertEqual(self.stands(halves(1, 0), like, halves(3, 4)), stands)
        # By 2 the square is 100.
        for like, stands in ((half(4) - 1, True), (half(4), True), (half(4) + 1, False)):
            self.assertEqual(self.stands(halves(2, 0), like, halves(3, 4)), stands)
            self.assertEqual(self.stands(halves(0, -2), like, halves(3, -4)), stands)

    def test_like_infinite(self):
        # Only what is infinite isn't below it then.
        self.assertFalse(self.stands(halves(1, 0), INF, halves(3, 4)))
        self.assertFalse(self.stands(halves(1, 0), INF, halves(255, 0)))
        self.assertTrue(self.stands(halves(1, 0), INF, halves(256, 0)))
        self.assertTrue(self.stands(halves(300, 0), INF, halves(1, 0)))
        # Infinite by an e of 0 is no number.
        self.assertFalse(self.stands(halves(60000, 0), INF, halves(2.0**-13, 0)))
        self.assertTrue(self.stands(halves(60000, 0), half(65504), halves(2.0**-13, 0)))
        # An e of 0 is 0 by any other like.
        self.assertTrue(self.stands(halves(16, 0), half(65504), halves(2.0**-13, 0)))

    def test_a_square_that_is_infinite(self):
        self.assertTrue(self.stands(halves(256, 0), ONE, halves(1, 0)))
        self.assertTrue(self.stands(halves(256, 0), half(65504), halves(1, 0)))
        # An e that is infinite by its size isn't above it, but by a like of 0 it is no number.
        self.assertTrue(self.stands(halves(1, 0), ONE, halves(256, 0)))
        self.assertFalse(self.stands(halves(1, 0), 0, halves(256, 0)))
        self.assertTrue(self.stands(halves(1, 1), 0, halves(200, 0)))
        # And it is above any finite square.
        self.assertFalse(self.stands(halves(0.5, 0), half(0.25), halves(300, 0)))

    def test_an_infinite_sample(self):
        # By taps of 1 + 1 i it is infinite in both parts, and c no number, whatever the mark.
        for mark in (halves(1, 0), halves(1, 1), halves(1, -1), [INF, ONE]):
            for like in (0, ONE, INF):
                self.assertFalse(self.stands(mark, like, [INF, ONE], taps=halves(1, 1)))
                self.assertFalse(self.stands(mark, like, [NEG_INF, ONE]))

    def test_an_infinite_mark(self):
        # c's square is infinite then: e is what is left to be compared.
        self.assertTrue(self.stands([INF, ONE], ONE, halves(1, 1)))
        self.assertTrue(self.stands([INF, ONE], INF, halves(1, 1)))
        self.assertTrue(self.stands([INF, ONE], 0, halves(1, 1)))
        self.assertFalse(self.stands([INF, ONE], 0, halves(1, 0)))
        self.assertFalse(self.stands([INF, INF], 0, halves(1, 1)))

    def test_what_is_no_number(self):
        for form in NAN_FORMS[::97]:
            for like in (0, ONE, INF):
                for sample in ([form, 0], [ONE, form]):
                    self.assertFalse(self.stands(halves(1, 0), like, sample))
                    self.assertFalse(self.stands(sample, like, halves(1, 0)))
                    self.assertFalse(self.stands(halves(1, 0, 0, 0), like, halves(1, 0) + sample))
                    self.assertFalse(self.stands(halves(0, 0, 1, 0), like, sample + halves(1, 0)))

    def test_the_sums_are_in_order(self):
        small = 2.0**-10
        mark = halves(1, 0, 1, 0, 1, 0)
        # c is 2 where the two small ones come one by one, and 2 + 2^-9 where they were added up before.
        self.assertFalse(self.stands(mark, ONE + 1, halves(2, 0, small, 0, small, 0)))
        self.assertTrue(self.stands(mark, ONE + 1, halves(small, 0, small, 0, 2, 0)))
        # e is 4 where the two squares come one by one, and more where they were added up before.
        small = 0.04345703125
        self.assertTrue(self.stands(halves(1, 0, 0, 0, 0, 0), ONE, halves(2, 0, small, 0, 0, small)))
        self.assertFalse(self.stands(halves(0, 0, 0, 0, 1, 0), ONE, halves(small, 0, 0, small, 2, 0)))
        self.assertFalse(self.stands(halves(0, 0, 1, 0), ONE, halves(small, small, 2, 0)))

    def test_the_sums_are_from_0_on(self):
        # c's square isn't 0 from 2897 times 2^-24 on; the products are 2896.8 and 2897.6 times that.
        for known, by, stands in ((2894, 1, False), (2892, 2, True)):
            size, factor = known * 2.0**-24, 1 + by * 2.0**-10
            for turned in (1, -1):
                self.assertEqual(self.stands(halves(size, 0), 0, halves(turned * factor, 0)), stands)
                self.assertEqual(self.stands(halves(size, 0), 0, halves(0, turned * factor)), stands)

    def test_at_the_bound_for_many(self):
        # Of each row like is chosen so that a last bit of c's square, of e or of their product shows.
        count = [0, 0]
        for n in (1, 2, 3, 5, 8):
            for seed in range(40):
                x = row_of_middling(n, 100 * n + seed)
                mark = [bits - 0x0800 for bits in row_of_middling(n, 5000 + 100 * n + seed)]
                for like in likes_near(mark, x):
                    radio = Radio(mark=mark, like=like, frame=FRAME)
                    expected = radio.stands(reference.pairs(x))
                    self.assertEqual(self.stands(mark, like, x), expected)
                    count[expected] += 1
        self.assertTrue(min(count) > 300)

    def test_halves_of_any_form(self):
        for n in (1, 2, 3):
            for seed in range(40):
                like = row_of_any(1, seed)[0] & 0x7BFF
                self.marks(row_of_any(n, 10 + seed), like, row_of_any(20, 90 + seed))
                mark = [bits & 0xBFFF for bits in row_of_any(n, 10 + seed)]
                self.marks(mark, like & 0x3BFF, row_of_any(20, 90 + seed))

    def test_64_samples(self):
        mark = row_of_middling(64, 7)
        quiet = [bits - 0x1000 if bits & 0x7C00 > 0x1000 else 0 for bits in row_of_middling(64, 8)]
        for like in (half(100), half(1000), half(5000)):
            for before in (0, 1, 63):
                self.marks([bits - 0x0C00 for bits in mark], like, quiet[:2 * before] + mark)


class Places(unittest.TestCase):
    """Where marks are found, by how many samples it takes till they are."""

    mark = halves(1, 0, -1, 0, 1, 0)

    def found(self, x, frame=FRAME, like=half(2.75)):
        """Of each mark the number of samples with which it was found."""
        radio = Radio(mark=self.mark, like=like, frame=frame)
        places = []
        for n in range(len(x) // 2 + 1):
            marks = fed(radio, pieces(x[:2 * n], (n // 2,)))[0][3]
            self.assertEqual(marks, radio.received(x[:2 * n])[0][2])
            places += [n] * (marks - len(places))
        return places

    def test_at_the_first_place(self):
        self.assertEqual(self.found(self.mark), [3])
        self.assertEqual(self.found(self.mark + halves(0, 0) * 9), [3])

    def test_at_the_last_place(self):
        self.assertEqual(self.found(halves(0, 0) * 9 + self.mark), [12])
        self.assertEqual(self.found(halves(1, 0) * 9 + self.mark), [12])
        self.assertEqual(self.found(halves(0, 0) * 9 + self.mark[:4]), [])

    def test_too_short(self):
        for n in range(3):
            self.assertEqual(self.found(self.mark[:2 * n]), [])

    def test_the_first_of_two_that_overlap(self):
        # 1 -1 1 -1 1 holds the mark at 0, with its sign turned at 1, and again at 2.
        self.assertEqual(self.found(halves(0, 0, 1, 0, -1, 0, 1, 0, -1, 0, 1, 0)), [4])

    def test_twice(self):
        silence = halves(0, 0)
        x = self.mark + silence * 8 + self.mark
        self.assertEqual(self.found(x), [3, 14])
        self.assertEqual(self.found(x + silence * 8), [3, 14])
        x = silence + self.mark + silence * 8 + silence * 5 + self.mark
        self.assertEqual(self.found(x), [4, 20])

    def test_within_a_symbol(self):
        silence = halves(0, 0)
        for place in range(6):
            x = self.mark + silence * place + self.mark + silence * (5 - place)
            self.assertEqual(self.found(x), [3], place)
            self.assertEqual(self.found(x + self.mark), [3, 14], place)
        # Half in a symbol and half behind it: what begins behind the frame counts alone.
        for place in (6, 7):
            x = self.mark + silence * place + self.mark + silence * 4
            self.assertEqual(self.found(x), [3], place)
        x = self.mark + silence * 8 + self.mark
        self.assertEqual(self.found(x), [3, 14])

    def test_within_a_guard(self):
        silence = halves(0, 0)
        frame = Frame(2, 4, 2, 1, ONE, halves(1, 0, 0, -1), [0], halves(1, 0))
        x = self.mark + self.mark + silence * 5 + self.mark + silence * 5
        self.assertEqual(self.found(x, frame), [3])
        self.assertEqual(self.found(x + self.mark, frame), [3, 22])


class Refusals(unittest.TestCase):
    def refused(self, call):
        self.assertEqual(told(rd_open(), rd_frame(*FRAME.values()), call)[2], [-2])

    def test_n(self):
        for n in (-1, 0, 65, *ENDS):
            self.refused(rd_mark(ONE, [], n))
            self.refused(rd_mark(0, [], n))

    def test_like(self):
        for like in [0x8001, 0x8400, half(-1), half(-65504), NEG_INF] + NAN_FORMS:
            self.refused(rd_mark(like, halves(1, 0)))

    def test_both(self):
        for like in (0x8001, NEG_INF, 0x7C01, 0xFFFF):
            for n in (-1, 0, 65, *ENDS):
                self.refused(rd_mark(like, [], n))

    def test_the_ends_are_taken(self):
        for like in (0, NEG_ZERO, 1, half(65504), INF):
            for n in (1, 64):
                self.assertEqual(told(rd_open(), rd_mark(like, halves(1, 0) * n))[1], [0])


def likes_near(mark, x):
    """The halves next to c's square by e, of a row and a mark."""
    c, e = (0, 0), 0
    for sample, known in zip(reference.pairs(x), reference.pairs(mark)):
        c = reference.added(1, sample, known, c)
        e = reference.fma(sample[1], sample[1], reference.fma(sample[0], sample[0], e))
    quotient = reference.Fraction(reference.value(reference.square(c))) / reference.Fraction(reference.value(e))
    middle = reference.nearest(quotient)
    return [bits for bits in range(middle - 2, middle + 3) if 0 <= bits <= INF]


if __name__ == "__main__":
    unittest.main()
