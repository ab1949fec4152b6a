"""rd_tone and rd_filter: what becomes of the samples before anything is looked for among them.

The samples kept are seen through a frame whose roots are 0: of each symbol only its first sample counts then, by
itself. A mark of 1 that is like nothing stands at the first sample that isn't 0.
"""

import unittest

from tests.line import fed, pieces, rd_feed, rd_filter, rd_frame, rd_mark, rd_open, rd_tell, rd_tone, told, unit_roots
from tests.reference import INF, half, halves, row_of_any, row_of_middling, value
from tests.reference_radio import Frame, Radio

ONE = half(1)
ZERO = [0, 0]


def seeing(q, unit, symbols=2):
    """A mark of one sample, and a frame that shows every fourth sample behind it; the first of these by itself."""
    frame = Frame(2, 0, symbols, q, unit, [0, 0, 0, 0], [0], halves(1, 0))
    return {"mark": halves(1, 0), "like": 0, "frame": frame}


def row(*samples):
    """Complex halves from numbers, real or complex."""
    return [bits for number in samples for bits in halves(complex(number).real, complex(number).imag)]


def turned_row(n, seed):
    """n complex halves of magnitudes from 2^-7 to 2."""
    return [bits - 0x0C00 for bits in row_of_middling(n, seed)]


class Tuner(unittest.TestCase):
    def both(self, radio, x, cuts=()):
        """The bits of a stream are those of the reference, in one piece and in several."""
        numbers, bits = radio.received(x)
        self.assertEqual(fed(radio, [x]), ([0] + numbers, bits))
        self.assertEqual(fed(radio, pieces(x, cuts)), ([0] + numbers, bits))
        return bits

    def at_least(self, radio, x, number):
        """Whether the fifth sample kept behind the mark is a number at least; it is real, and the first one is 1."""
        radio.frame.q = 4
        radio.frame.unit = half(number / 2)
        # The symbol that it begins is to be whole.
        _, bits = fed(radio, [x, ZERO * 3 * radio.down])
        self.assertEqual(bits[2:], [1, 1], "the imaginary part isn't 0")
        return bits[:2] == [1, 0]

    def seen(self, radio, x, number):
        """That sample is just this number: at least it, and not at least the next half."""
        self.assertTrue(self.at_least(radio, x, number), number)
        self.assertFalse(self.at_least(radio, x, value(half(number) + 1)), number)


class Tone(Tuner):
    def test_without_a_tone(self):
        self.seen(Radio(**seeing(4, ONE)), row(1, 1, 0, 0, 0, 2050), 2050)
        radio = Radio(**seeing(4, half(1025)))
        self.assertEqual(fed(radio, [row(1, 1, 0, 0, 0, 2050 - 2052j, 0, 0, 0)])[1], [1, 0, 0, 0])

    def test_one_factor(self):
        radio = Radio(table=halves(3, 0), **seeing(4, ONE))
        radio.frame.first = halves(3, 0)
        # h is 9, and y 9 by three times the sample.
        self.assertEqual(fed(radio, [row(1, 1, 0, 0, 0, 12 - 3j, 0, 0, 0)])[1], [1, 0, 0, 1])
        radio = Radio(table=halves(0, 1), **seeing(4, ONE))
        # i by -i is 1.
        self.seen(radio, row(1, -1j, 0, 0, 0, -500j), 500)

    def test_two_factors(self):
        radio = Radio(table=halves(1, 0, 2, 0), **seeing(4, ONE))
        # The samples with the numbers 1 and 5 are doubled, the other ones aren't.
        self.seen(radio, row(1, 0.5, 0, 0, 0, 500), 1000)
        radio = Radio(table=halves(2, 0, 1, 0), **seeing(4, ONE))
        self.seen(radio, row(1, 1, 0, 0, 0, 500), 500)

    def test_the_number_is_that_of_the_stream(self):
        # The tone goes on through pieces, through what is kept, through marks and frames.
        table = turned_row(7, 1)
        x = turned_row(120, 2)
        radio = Radio(table=table, **seeing(6, half(0.25), 5))
        for cuts in ((1,), (3, 4), (0, 7, 7), (50, 0, 1, 30)):
            self.assertTrue(len(self.both(radio, x, cuts)) > 100)

    def test_1024_factors(self):
        table = turned_row(1024, 3)
        x = turned_row(2200, 4)
        radio = Radio(table=table, **seeing(6, half(0.25), 64))
        bits = self.both(radio, x, (1023, 2, 1000))
        self.assertTrue(len(bits) > 2000)
        # The table isn't one that repeats earlier.
        for n in (512, 1023):
            other = Radio(table=table[:2 * n], **seeing(6, half(0.25), 64))
            self.assertNotEqual(other.received(x)[1], bits)

    def test_each_length(self):
        for n in (1, 2, 3, 5, 16, 100):
            radio = Radio(table=turned_row(n, 10 + n), **seeing(6, half(0.25), 20))
            self.both(radio, turned_row(250, 30 + n), (17, 100))

    def test_halves_of_any_form(self):
        for n in (1, 2, 3):
            for seed in range(6):
                radio = Radio(table=row_of_any(n, seed), **seeing(6, half(0.25), 3))
                self.both(radio, row_of_any(60, 40 + seed), (20,))

    def test_none_is_not_a_tone_of_1(self):
        # An infinite part by 1 + 0 i leaves the other part no number.
        x = row(1, 1, 0, 0, 0) + [INF, ONE] + row(0, 0, 0)
        for table, told_bits in (([], [1]), (halves(1, 0), [0])):
            radio = Radio(table=table, taps=halves(1, 1), **seeing(1, ONE))
            self.assertEqual(fed(radio, [x])[1], told_bits)
            self.both(radio, x)

    def test_none_again(self):
        radio = Radio(**seeing(4, ONE))
        set_calls = [rd_mark(0, radio.mark), rd_frame(*radio.frame.values())]
        x = row(1, 1, 0, 0, 0, 3, 0, 0, 0)
        answered = told(rd_open(), *set_calls, rd_tone(halves(-1, 0, 5, 0)), rd_tone([]), rd_feed(x), rd_tell())
        self.assertEqual(answered[-2:], [[4, 1, 0, 1, 1], [0, 9, 9, 1, 2, 4]])

    def test_the_product_is_one_of_complex_halves(self):
        # Turned by 1 + 2 i, what was 3 - 1 i is 5 + 5 i, and by its conjugate 1 - 7 i.
        radio = Radio(table=halves(1, 0) + halves(1, 0) + halves(1, 0) * 3 + halves(1, 2), **seeing(6, ONE))
        self.assertEqual(fed(radio, [row(1, 1, 0, 0, 0, 3 - 1j, 0, 0, 0)])[1], [1, 0, 1, 1, 0, 1])


class Filter(Tuner):
    def test_one_tap(self):
        self.seen(Radio(taps=halves(2, 0), **seeing(4, ONE)), row(1, 0.5, 0, 0, 0, 700), 1400)
        self.seen(Radio(taps=halves(0, 1), **seeing(4, ONE)), row(1, -1j, 0, 0, 0, -700j), 700)

    def test_two_taps(self):
        # The first tap is that of the sample itself, the second that of the one before.
        x = row(1, 0, 0, 0, 3, 500)
        self.seen(Radio(taps=halves(1, 0, 1, 0), **seeing(4, ONE)), x, 503)
        x = row(1, 0.5, 0, 0, 16, 500)
        self.seen(Radio(taps=halves(1, 0, 0.5, 0), **seeing(4, ONE)), x, 508)

    def test_what_is_before_the_first_is_not_added(self):
        # 0 by infinite were no number, and the mark wouldn't stand at the first sample.
        frame = seeing(4, ONE)
        for taps in ([ONE, 0, INF, 0], [ONE, 0, ONE, 0, 0x7C01, 0], [ONE, 0] + [INF, INF] * 63):
            answered, _ = fed(Radio(taps=taps, **frame), [row(1, 1)])
            self.assertEqual(answered, [0, 2, 2, 1, 0, 0])
            answered, _ = fed(Radio(taps=taps, **frame), [row(1), row(1)])
            self.assertEqual(answered, [0, 2, 2, 1, 0, 0])
        # Of the samples before the stream began anew nothing is left either.
        radio = Radio(taps=[ONE, 0, INF, 0], **frame)
        set_calls = [rd_filter(1, radio.taps), rd_mark(0, radio.mark)]
        set_again = rd_frame(*radio.frame.values())
        answered = told(rd_open(), *set_calls, rd_feed(row(5, 7)), set_again, rd_feed(row(1)), rd_tell())
        self.assertEqual(answered[-1], [0, 1, 1, 1, 0, 0])

    def test_each_is_added_in_order(self):
        # Of 2048 + 1 + 1 either 1 is lost; added up from the other end they'd make 2050.
        taps = halves(1, 0, 1, 0, 1, 0)
        self.seen(Radio(taps=taps, **seeing(4, ONE)), row(1, 0, 0, 1, 1, 2048), 2048)
        self.seen(Radio(taps=taps, **seeing(4, ONE)), row(1, 0, 0, 2048, 1, 1), 2050)

    def test_the_sum_is_from_0_on(self):
        # A great mark would stand at the least part that isn't 0.
        radio = Radio(mark=halves(32768, 0), like=0, frame=seeing(4, ONE)["frame"])
        self.assertEqual(fed(radio, [row(0, 0, 0)])[0], [0, 3, 3, 0, 0, 0])
        for sample in ([1, 0], [0x8001, 0], [0, 1], [0, 0x8001]):
            self.assertEqual(fed(radio, [row(0) + sample])[0], [0, 2, 2, 1, 0, 0])

    def test_each_step_rounds_once(self):
        # 2050 + (1 - 2^-20) is below the middle of 2050 and 2052, but the product rounded by itself were 1.
        step = 2.0**-10
        radio = Radio(taps=halves(1, 0, 1 - step, 0), **seeing(4, ONE))
        self.seen(radio, row(1, step, 0, 0, 1 + step, 2050), 2050)

    def test_the_default_tap_multiplies_like_any_other(self):
        # It leaves the part beside an infinite one no number, so the mark doesn't stand.
        radio = Radio(mark=halves(1, 1), like=ONE, frame=seeing(4, ONE)["frame"])
        x = [INF, ONE]
        self.assertFalse(radio.stands(radio.kept(x)))
        self.assertTrue(radio.stands([(INF, ONE)]))
        self.assertEqual(fed(radio, [x])[0], [0, 1, 1, 0, 0, 0])

    def test_thinned_out(self):
        for down in (1, 2, 3, 16):
            for n in (0, 1, 2, 15, 16, 17, 33, 50):
                x = row_of_middling(n, down)
                kept = -(-n // down)
                self.assertEqual(fed(Radio(down=down), [x])[0], [0, n, kept, 0, 0, 0])
                halves_of_it = pieces(x, (n // 3, n // 2))
                self.assertEqual(fed(Radio(down=down), halves_of_it)[0], [0, n, kept, 0, 0, 0])

    def test_which_are_kept(self):
        for down in (2, 3, 16):
            # 6 samples are to be kept; those between are other ones, and don't count.
            samples = []
            for number in (1, 1, 0, 0, 0, 777):
                samples += [number] + [5 - 3j] * (down - 1)
            self.seen(Radio(down=down, **seeing(4, ONE)), row(*samples), 777)

    def test_the_one_before_is_one_that_may_not_be_kept(self):
        radio = Radio(taps=halves(1, 0, 1, 0), down=2, **seeing(4, ONE))
        self.seen(radio, row(1, 0, 1, 9, 0, 9, 0, 9, 0, 3, 500, 9), 503)
        self.seen(radio, row(1, 0.5, 0.5, 9, 0, 9, 0, 9, 2, -3, 500, 9), 497)

    def test_each_number_of_taps(self):
        for n in (1, 2, 3, 17, 64):
            for down in (1, 2, 3, 16):
                radio = Radio(taps=[bits - 0x0800 for bits in turned_row(n, n)], down=down, **seeing(6, half(0.25), 20))
                x = turned_row(150 + 80 * down, 50 + n)
                bits = self.both(radio, x, (1, 70, 3))
                self.assertTrue(len(bits) > 0)

    def test_64_taps_each_count(self):
        x = turned_row(300, 8)
        taps = turned_row(64, 9)
        bits = self.both(Radio(taps=taps, **seeing(6, half(0.25), 40)), x, (63, 2))
        for n in (63, 32):
            self.assertNotEqual(Radio(taps=taps[:2 * n], **seeing(6, half(0.25), 40)).received(x)[1], bits)

    def test_halves_of_any_form(self):
        for n in (1, 2, 3):
            for seed in range(6):
                radio = Radio(taps=row_of_any(n, seed), down=1 + seed % 2, **seeing(6, half(0.25), 3))
                self.both(radio, row_of_any(60, 60 + seed), (20,))

    def test_tone_and_filter(self):
        for n, taps, down in ((3, 5, 1), (4, 2, 2), (5, 8, 3), (1, 1, 16)):
            radio = Radio(turned_row(n, 70), turned_row(taps, 71), down, **seeing(6, half(0.25), 9))
            self.both(radio, turned_row(60 * down + 40, 72), (13, 1, 20))

    def test_a_frame_through_a_tone_and_back(self):
        # Sent by one radio, turned by a tone, and turned back by the other one.
        frame = Frame(3, 2, 4, 4, half(0.25), unit_roots(3), [1, 2, 5, 6], halves(1, 0, 0, 1, -1, 0, 0, -1))
        sender = Radio(mark=halves(1, 1, 1, -1, -1, 1, 1, 1), like=half(6), frame=frame)
        bits = [number & 1 for number in row_of_any(frame.bits(), 5)][:frame.bits()]
        sent = sender.sent(bits)[1:]
        turned = Radio(table=halves(0, 1, -1, 0, 0, -1, 1, 0)).kept(sent)
        x = [part for sample in turned for part in sample]
        sender.table = halves(0, -1, -1, 0, 0, 1, 1, 0)
        answered, found = fed(sender, [x])
        self.assertEqual(found, bits)
        self.assertEqual(answered, [0, 44, 44, 1, 4, 48])


if __name__ == "__main__":
    unittest.main()
