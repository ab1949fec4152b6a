"""rr_words and rr_to_words: whole numbers of 16 bits as halves, and back."""

import unittest

from halfradio.rows import rr_to_words, rr_words
from tests import reference
from tests.reference import INF, NAN_FORMS, NEG_INF, NEG_ZERO, difference, half, halves, row_of_any

KS = (-64, -41, -40, -39, -30, -25, -15, -1, 0, 1, 2, 15, 16, 40, 63, 64)


class Words(unittest.TestCase):
    def one(self, k, word, expected):
        """A word in either place; also with the other sign, where it has one."""
        self.assertEqual(rr_words(1, k, [word, 0]), [0, expected, 0], (k, word))
        self.assertEqual(rr_words(1, k, [0, word]), [0, 0, expected], (k, word))
        if word not in (0, 32768):
            other = 0 if expected == 0 else reference.neg(expected)
            self.assertEqual(rr_words(1, k, [65536 - word, 0]), [0, other, 0], (k, word))

    def test_ordinary(self):
        self.assertEqual(rr_words(2, 0, [1, 2, 65535, 1000]), [0] + halves(1, 2, -1, 1000))
        self.assertEqual(rr_words(2, 3, [1, 2, 65535, 1000]), [0] + halves(8, 16, -8, 8000))
        self.assertEqual(rr_words(2, -15, [16384, 49152, 32768, 8192]), [0] + halves(0.5, -0.5, -1, 0.25))

    def test_none_at_all(self):
        for k in KS:
            self.assertEqual(rr_words(0, k, []), [0])

    def test_each_word_once(self):
        for start in range(0, 65536, 8192):
            words = list(range(start, start + 8192))
            self.assertIsNone(difference(rr_words(4096, 0, words), reference.rr_words(0, words)))

    def test_any_k(self):
        for k in range(-64, 65):
            words = row_of_any(60, 400 + k)
            self.assertIsNone(difference(rr_words(60, k, words), reference.rr_words(k, words)), k)

    def test_the_first_rounding(self):
        for word, told in ((0, 0), (1, 1), (2048, 2048), (2049, 2048), (2050, 2050), (2051, 2052), (4097, 4096)):
            self.one(0, word, half(told))
        for word, told in ((4098, 4096), (4099, 4100), (4102, 4104), (32752, 32752), (32759, 32752), (32760, 32768)):
            self.one(0, word, half(told))
        self.one(0, 32767, half(32768))
        self.one(0, 32768, half(-32768))
        self.one(0, 65535, half(-1))

    def test_other_powers_behind_it(self):
        for word, told in ((0, 0), (1, 1), (2049, 2048), (2051, 2052), (4097, 4096)):
            self.one(1, word, half(told * 2))
            self.one(-1, word, half(told / 2))
        # In units of 2^-24 2051 and 4097 come out as 32.0625 and 64.
        for word, told in ((0, 0), (1, 0), (2049, 32), (2051, 32), (4097, 64)):
            self.one(-30, word, told)
        self.one(1, 32767, INF)
        self.one(1, 32759, half(65504))
        self.one(1, 32768, NEG_INF)
        self.one(-1, 32768, half(-16384))

    def test_the_first_rounding_comes_before_the_second(self):
        # 2053 becomes 2052, and that 256.5 times 2^-24; 2053 itself were more than this.
        self.one(-27, 2053, 256)
        self.one(-27, 2052, 256)
        self.one(-27, 2054, 257)
        # 4098 becomes 4096, which is a tie that 4098 is not.
        self.one(-37, 4096, 0)
        self.one(-37, 4097, 0)
        self.one(-37, 4098, 0)
        self.one(-37, 4099, 1)

    def test_below_the_least_half(self):
        self.one(-24, 1, 1)
        self.one(-25, 1, 0)
        self.one(-25, 3, 2)
        self.one(-25, 5, 2)
        self.one(-30, 32, 0)
        self.one(-30, 33, 1)
        self.one(-30, 1, 0)
        self.one(-30, 32767, 512)
        self.one(-39, 32768, 0x8001)
        self.one(-40, 32768, 0)
        self.one(-64, 32767, 0)
        self.one(-64, 32768, 0)

    def test_great_powers(self):
        self.one(64, 0, 0)
        self.one(64, 1, INF)
        self.one(64, 32767, INF)
        self.one(64, 32768, NEG_INF)
        self.one(15, 1, half(32768))
        self.one(16, 1, INF)
        self.one(5, 2047, half(65504))
        self.one(5, 2048, INF)


class ToWords(unittest.TestCase):
    def one(self, k, bits, expected):
        self.assertEqual(rr_to_words(1, k, [bits, 0]), [0, expected % 65536, 0], (k, bits))
        self.assertEqual(rr_to_words(1, k, [0, bits]), [0, 0, expected % 65536], (k, bits))

    def test_ordinary(self):
        x = halves(1, -2, 0.75, -100.25)
        self.assertEqual(rr_to_words(2, 0, x), [0, 1, 65534, 1, 65436])
        self.assertEqual(rr_to_words(2, 2, x), [0, 4, 65528, 3, 65135])
        self.assertEqual(rr_to_words(2, -1, x), [0, 0, 65535, 0, 65486])

    def test_none_at_all(self):
        for k in KS:
            self.assertEqual(rr_to_words(0, k, []), [0])

    def test_each_half_once(self):
        for k in (0, 3):
            for start in range(0, 65536, 8192):
                x = list(range(start, start + 8192))
                self.assertIsNone(difference(rr_to_words(4096, k, x), reference.rr_to_words(k, x)))

    def test_any_k(self):
        for k in range(-64, 65):
            x = row_of_any(60, 500 + k)
            self.assertIsNone(difference(rr_to_words(60, k, x), reference.rr_to_words(k, x)), k)

    def test_of_two_as_near_the_even_one(self):
        for number, whole in ((0.5, 0), (1.5, 2), (2.5, 2), (3.5, 4), (1022.5, 1022), (1023.5, 1024)):
            self.one(0, half(number), whole)
            self.one(0, half(-number), -whole)
            self.one(1, half(number / 2), whole)
            self.one(-1, half(-number * 2), -whole)

    def test_beside_the_middle_of_two(self):
        self.one(0, half(0.5) - 1, 0)
        self.one(0, half(0.5) + 1, 1)
        self.one(0, half(-0.5) - 1, 0)
        self.one(0, half(-0.5) + 1, -1)
        self.one(0, half(2.5) - 1, 2)
        self.one(0, half(2.5) + 1, 3)
        self.one(0, half(-2.5) + 1, -3)
        self.one(0, half(1.5) - 1, 1)
        self.one(0, half(-1.5) - 1, -1)

    def test_the_ends(self):
        # No half lies between 32752 and 32768.
        self.one(0, half(32752), 32752)
        self.one(0, half(32768), 32767)
        self.one(0, half(32800), 32767)
        self.one(0, half(65504), 32767)
        self.one(0, half(-32752), -32752)
        self.one(0, half(-32768), -32768)
        self.one(0, half(-32800), -32768)
        self.one(0, half(-65504), -32768)
        self.one(-1, half(65504), 32752)
        self.one(-1, half(-65504), -32752)
        self.one(1, half(16384), 32767)
        self.one(1, half(16376), 32752)
        self.one(1, half(-16384), -32768)
        self.one(1, half(-16400), -32768)
        self.one(15, half(1), 32767)
        self.one(15, half(-1), -32768)

    def test_beyond_65520(self):
        for k in (1, 2, 16, 64):
            self.one(k, half(65504), 32767)
            self.one(k, half(-65504), -32768)
        self.one(64, 0x0001, 32767)
        self.one(64, 0x8001, -32768)

    def test_great_and_small_powers(self):
        self.one(24, 0x0001, 1)
        self.one(23, 0x0001, 0)
        self.one(23, 0x0003, 2)
        self.one(-15, half(65504), 2)
        self.one(-16, half(65504), 1)
        self.one(-16, half(32768), 0)
        self.one(-16, half(32800), 1)
        self.one(-17, half(65504), 0)
        for k in (-64, -40, -25):
            self.one(k, half(65504), 0)
            self.one(k, half(-65504), 0)

    def test_infinite_parts_are_held(self):
        for k in KS:
            self.assertEqual(rr_to_words(1, k, [INF, NEG_INF]), [0, 32767, 32768])

    def test_no_number_is_0(self):
        for k in KS:
            self.assertEqual(rr_to_words(1023, k, NAN_FORMS), [0] + [0] * 2046)

    def test_zeros(self):
        for k in KS:
            self.assertEqual(rr_to_words(1, k, [0, NEG_ZERO]), [0, 0, 0])

    def test_there_and_back(self):
        words = list(range(2049)) + [65536 - word for word in range(1, 2048)]
        for k in (-10, 0, 4):
            self.assertEqual(rr_to_words(2048, -k, rr_words(2048, k, words)[1:]), [0] + words)


if __name__ == "__main__":
    unittest.main()
