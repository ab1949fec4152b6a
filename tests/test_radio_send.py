"""rd_send: a frame put together, its refusals in their order, and that the stream goes on as it was."""

import unittest

from tests.line import calls_for, fed, rd_feed, rd_filter, rd_frame, rd_mark, rd_open, rd_send, rd_tell, rd_tone
from tests.line import told, unit_roots
from tests.reference import INF, NAN, NEG_INF, NEG_ZERO, difference, half, halves, row_of_any, row_of_middling
from tests.reference_radio import Frame, Radio
from tests.test_calls import ENDS
from tests.test_radio_frame import MARK, frame_of, radio_of, some_bits

ONE = half(1)


class Sent(unittest.TestCase):
    def sends(self, radio, bits, most=32832):
        answer = told(*calls_for(radio), rd_send(most, bits))[-1]
        self.assertIsNone(difference(answer, radio.sent(bits)))
        return answer

    def test_ordinary(self):
        # One carrier, with the number 1, of four: 1 there is 1, i, -1, -i as samples, by a quarter.
        frame = Frame(2, 1, 2, 1, ONE, unit_roots(2), [1], halves(1, 0))
        radio = Radio(mark=halves(2, -2), like=ONE, frame=frame)
        symbol = halves(0, -0.25, 0.25, 0, 0, 0.25, -0.25, 0, 0, -0.25)
        turned = halves(0, 0.25, -0.25, 0, 0, -0.25, 0.25, 0, 0, 0.25)
        self.assertEqual(self.sends(radio, [1]), [11] + halves(2, -2) + symbol + symbol)
        self.assertEqual(self.sends(radio, [0]), [11] + halves(2, -2) + symbol + turned)

    def test_the_points_of_each_q(self):
        # On the carrier 0 a point is the same in each sample.
        for q, bits, point in (
            (1, [0], (-1, 0)), (2, [0, 1], (-1, 1)), (4, [1, 0, 0, 1], (3, -1)), (6, [1, 0, 0, 0, 1, 0], (7, -1)),
        ):
            frame = Frame(2, 0, 2, q, half(4), unit_roots(2), [0], halves(2, 8))
            radio = Radio(mark=halves(1, 0), like=ONE, frame=frame)
            sent = [9] + halves(1, 0) + halves(0.5, 2) * 4 + halves(*point) * 4
            self.assertEqual(self.sends(radio, bits), sent)

    def test_comes_back(self):
        for k, guard, symbols, q, carriers in (
            (2, 0, 2, 1, [0]), (2, 4, 3, 6, [3, 0, 1]), (3, 1, 64, 2, [1, 2]), (4, 16, 3, 4, list(range(16))),
            (6, 5, 4, 6, list(range(1, 60, 3))), (8, 256, 2, 2, [0, 255, 128]), (8, 0, 3, 4, list(range(0, 256, 5))),
        ):
            radio = radio_of(frame_of(k, guard, symbols, q, carriers))
            bits = some_bits(radio.frame.bits(), k + q)
            sent = self.sends(radio, bits)
            self.assertEqual(len(sent), 1 + 2 * sent[0])
            self.assertEqual(sent[0], 5 + symbols * (guard + 2**k))
            answered, found = fed(radio, [sent[1:][:8192], sent[1:][8192:]])
            self.assertEqual(found, bits)
            self.assertEqual(answered, [0, sent[0], sent[0], 1, symbols, len(bits)])

    def test_sent_and_fed_in_one_line(self):
        radio = radio_of(frame_of(3, 2, 3, 4, [1, 4, 6]))
        bits = some_bits(24, 5)
        sent = told(*calls_for(radio), rd_send(99, bits))[-1]
        answered = told(*calls_for(radio), rd_send(99, bits), rd_feed(sent[1:]), rd_tell())
        self.assertEqual(answered[-3:], [sent, [24] + bits, [0, 35, 35, 1, 3, 24]])

    def test_guards(self):
        for k in (2, 3):
            for guard in range(2**k + 1):
                radio = radio_of(frame_of(k, guard, 3, 4, [1, 2, 3]))
                sent = self.sends(radio, some_bits(24, guard))[1:]
                length = guard + 2**k
                for start in range(5, len(sent) // 2, length):
                    symbol = sent[2 * start:2 * (start + length)]
                    self.assertEqual(symbol[:2 * guard], symbol[len(symbol) - 2 * guard:])

    def test_roots_that_are_no_unit_roots(self):
        for seed, k in enumerate((2, 3, 4, 5)):
            roots = [bits - 0x1000 for bits in row_of_middling(2**(k - 1), seed)]
            frame = Frame(k, 1, 3, 6, half(0.3125), roots, [3, 1, 0], row_of_middling(3, seed + 5))
            self.sends(Radio(mark=row_of_middling(7, seed), like=ONE, frame=frame), some_bits(36, seed))

    def test_halves_of_any_form(self):
        for seed in range(20):
            frame = Frame(2, 2, 3, 2, half(0.5), row_of_any(2, seed), [0, 3], row_of_any(2, 50 + seed))
            self.sends(Radio(mark=row_of_any(5, seed), like=ONE, frame=frame), some_bits(8, seed))

    def test_the_mark_is_told_like_any_half(self):
        frame = frame_of(2, 0, 2, 1, [0])
        radio = Radio(mark=[NEG_ZERO, 0, 0x7C01, 0xFFFF, INF, NEG_INF, 0x8001, ONE], like=ONE, frame=frame)
        self.assertEqual(self.sends(radio, [1])[1:9], [0, 0, NAN, NAN, INF, NEG_INF, 0x8001, ONE])

    def test_infinite_and_small_points(self):
        for first in ([INF, 0], [0x7C01, 0], [0x0001, 0x8001], [half(65504), half(-65504)], [NEG_ZERO, NEG_ZERO]):
            for k in (2, 4):
                frame = Frame(k, 1, 2, 4, half(4096), unit_roots(k), [1, 2], first * 2)
                self.sends(Radio(mark=halves(1, 0), like=ONE, frame=frame), some_bits(8, k))

    def test_times_2_to_minus_k_is_rounded_once_at_the_end(self):
        # 3 of the least half by a quarter is 1 of them, 2 of them none, 6 of them 2.
        for small, told_small in ((1, 0), (2, 0), (3, 1), (5, 1), (6, 2), (7, 2), (10, 2)):
            frame = Frame(2, 0, 2, 1, ONE, unit_roots(2), [0], [small, 0])
            sent = self.sends(Radio(mark=halves(1, 0), like=ONE, frame=frame), [1])
            self.assertEqual(sent[3:11], [told_small, 0] * 4)
        # The sum of the carriers is infinite before it is made smaller.
        frame = Frame(2, 0, 2, 1, ONE, unit_roots(2), [0, 2], halves(40000, 0, 40000, 0))
        sent = self.sends(Radio(mark=halves(1, 0), like=ONE, frame=frame), [1, 1])
        self.assertEqual(sent[3:5], [INF, 0])

    def test_symbols_with_the_same_bits_and_others(self):
        radio = radio_of(frame_of(3, 1, 5, 2, [1, 6]))
        for bits in ([0, 0, 0, 0] * 4, [1, 0, 0, 1, 1, 1, 1, 0] * 2, [1, 0, 0, 1] * 3 + [0] * 4):
            self.sends(radio, bits)
        calls = [rd_send(99, bits) for bits in ([0] * 16, [1] * 16, [0] * 16, [0, 1] * 8, [1] * 16)]
        answered = told(*calls_for(radio), *calls)[-5:]
        self.assertEqual(answered, [radio.sent(call[3:]) for call in calls])

    def test_another_frame_sends_other_symbols(self):
        bits = [1, 0, 0, 1]
        one = radio_of(frame_of(2, 1, 2, 2, [1, 3]))
        other = radio_of(frame_of(2, 1, 2, 2, [3, 0], unit=half(3), seed=4))
        set_other = rd_frame(*other.frame.values())
        set_one = rd_frame(*one.frame.values())
        answered = told(*calls_for(one), rd_send(99, bits), set_other, rd_send(99, bits), set_one, rd_send(99, bits))
        self.assertEqual([answered[-5], answered[-3], answered[-1]], [one.sent(bits), other.sent(bits), one.sent(bits)])

    def test_neither_tone_nor_filter(self):
        radio = radio_of(frame_of(3, 2, 3, 4, [1, 4, 6]))
        bits = some_bits(24, 5)
        set_calls = [rd_tone(halves(0, 1, 2, 0)), rd_filter(3, halves(0.5, 0, 1, 1))]
        answered = told(*calls_for(radio), *set_calls, rd_send(99, bits))
        self.assertEqual(answered[-1], radio.sent(bits))

    def test_the_stream_goes_on(self):
        radio = radio_of(frame_of(3, 2, 3, 4, [1, 4, 6]))
        bits = some_bits(24, 7)
        x = halves(0.25, 0) * 2 + radio.sent(bits)[1:] * 2
        other = [1 - bit for bit in bits]
        for cut in range(0, len(x), 10):
            calls = [rd_feed(x[:cut]), rd_send(99, other), rd_send(34, bits), rd_feed(x[cut:]), rd_tell()]
            answered = told(*calls_for(radio), *calls)[-5:]
            self.assertEqual(answered[1:3], [radio.sent(other), [-1]])
            self.assertEqual(answered[0][1:] + answered[3][1:], bits * 2)
            self.assertEqual(answered[4], [0, 72, 72, 2, 6, 48])

    def test_the_longest_frame(self):
        frame = Frame(8, 256, 64, 1, ONE, unit_roots(8), [7], halves(1, 0))
        radio = Radio(mark=row_of_middling(64, 3), like=ONE, frame=frame)
        bits = some_bits(63, 3)
        set_calls = calls_for(radio)
        answered = told(*set_calls, rd_send(32832, bits), rd_send(32831, bits))[len(set_calls):]
        self.assertEqual(answered[0][0], 32832)
        self.assertEqual(len(answered[0]), 1 + 2 * 32832)
        self.assertEqual(answered[1], [-1])
        short = Radio(mark=radio.mark, like=ONE, frame=frame_like(frame, symbols=3)).sent(bits[:2])[1:]
        self.assertEqual(answered[0][1:len(short) + 1], short)


class Refusals(unittest.TestCase):
    def setUp(self):
        self.radio = radio_of(frame_of(2, 1, 3, 2, [1, 3]))
        self.bits = [1, 0, 0, 1, 1, 1, 0, 0]
        self.count = 5 + 3 * 5

    def answer(self, most, bits, radio=None):
        return told(*calls_for(radio or self.radio), rd_send(most, bits))[-1]

    def test_most(self):
        for most in (-1, 32833, *ENDS):
            self.assertEqual(self.answer(most, self.bits), [-2])
        self.assertEqual(self.answer(32832, self.bits), self.radio.sent(self.bits))

    def test_just_enough(self):
        self.assertEqual(self.answer(self.count, self.bits), self.radio.sent(self.bits))
        self.assertEqual(self.answer(self.count + 1, self.bits), self.radio.sent(self.bits))
        for most in (0, 1, self.count - 1):
            self.assertEqual(self.answer(most, self.bits), [-1])
        for guard in (0, 4):
            radio = radio_of(frame_of(2, guard, 3, 2, [1, 3]))
            count = 5 + 3 * (4 + guard)
            self.assertEqual(self.answer(count, self.bits, radio)[0], count)
            self.assertEqual(self.answer(count - 1, self.bits, radio), [-1])

    def test_no_mark_or_no_frame(self):
        for radio in (Radio(), Radio(mark=MARK), Radio(frame=self.radio.frame)):
            self.assertEqual(self.answer(99, self.bits, radio), [-3])
            self.assertEqual(self.answer(99, [], radio), [-3])

    def test_the_number_of_bits(self):
        for n in (0, 1, 7, 9, 12, 16, 100):
            self.assertEqual(self.answer(99, [1] * n), [-5])
        self.assertEqual(self.answer(99, [1] * 8)[0], self.count)

    def test_a_bit_that_is_none(self):
        for place in range(8):
            for bit in (2, 3, 128, 255):
                bits = list(self.bits)
                bits[place] = bit
                self.assertEqual(self.answer(99, bits), [-5])

    def test_two_at_once(self):
        wrong_bit = self.bits[:7] + [2]
        for most in (-1, 32833, *ENDS):
            for radio in (Radio(), Radio(mark=MARK), Radio(frame=self.radio.frame)):
                self.assertEqual(self.answer(most, self.bits, radio), [-2])
                self.assertEqual(self.answer(most, wrong_bit, radio), [-2])
            self.assertEqual(self.answer(most, wrong_bit), [-2])
            self.assertEqual(self.answer(most, self.bits[:7]), [-2])
        for radio in (Radio(), Radio(mark=MARK), Radio(frame=self.radio.frame)):
            self.assertEqual(self.answer(99, wrong_bit, radio), [-3])
            self.assertEqual(self.answer(0, self.bits, radio), [-3])
            self.assertEqual(self.answer(0, wrong_bit, radio), [-3])
        for bits in (wrong_bit, self.bits[:7], self.bits + [2]):
            self.assertEqual(self.answer(0, bits), [-5])
            self.assertEqual(self.answer(self.count - 1, bits), [-5])

    def test_more_bits_than_any_frame_has(self):
        # Such a list isn't handed in; were it, its length would be out of its range.
        self.assertEqual(self.answer(99, [0] * 96769), [-2])
        self.assertEqual(self.answer(99, [0] * 96768), [-5])
        self.assertEqual(self.answer(99, [0] * 96769, Radio()), [-2])

    def test_nothing_is_sent_behind_rd_open(self):
        answered = told(*calls_for(self.radio), rd_send(99, self.bits), rd_open(), rd_send(99, self.bits))
        self.assertEqual(answered[-3], self.radio.sent(self.bits))
        self.assertEqual(answered[-1], [-3])
        answered = told(rd_open(), rd_mark(ONE, MARK), rd_send(99, self.bits), rd_frame(*self.radio.frame.values()))
        self.assertEqual(answered[2], [-3])


def frame_like(frame, symbols):
    k, guard, _, q, unit, roots, carriers, first = frame.values()
    return Frame(k, guard, symbols, q, unit, roots, carriers, first)


if __name__ == "__main__":
    unittest.main()
