"""rd_frame and rd_feed: symbols taken apart behind a mark, whatever the pieces."""

import unittest

from tests import reference
from tests.line import calls_for, fed, pieces, rd_feed, rd_frame, rd_mark, rd_open, rd_send, rd_tell, told, unit_roots
from tests.reference import INF, NAN_FORMS, half, halves, row_of_any, row_of_middling
from tests.reference_radio import Frame, Radio
from tests.test_calls import ENDS
from tests.test_points import OUTSIDE_Q, WRONG_UNITS

ONE = half(1)
MARK = halves(1, 1, -1, 1, 1, -1, 1, 1, -1, -1)


def some_bits(count, seed):
    return [number & 1 for number in row_of_any(count, seed)][:count]


def some_first(n, seed):
    """n known points of magnitude 1: what is sent comes back only by such."""
    points = halves(1, 0), halves(0, 1), halves(-1, 0), halves(0, -1)
    return [part for number in row_of_any(n, seed)[:n] for part in points[number % 4]]


def frame_of(k, guard, symbols, q, carriers, unit=half(0.25), seed=1):
    return Frame(k, guard, symbols, q, unit, unit_roots(k), carriers, some_first(len(carriers), seed))


def radio_of(frame, like=half(9)):
    return Radio(mark=MARK, like=like, frame=frame)


def noisy(x, seed, size=0x2000):
    """A row with a little added to each part."""
    noise = [bits - size for bits in row_of_middling(len(x) // 2, seed)]
    return [reference.add(u, v) for u, v in zip(x, noise)]


class Frames(unittest.TestCase):
    def comes_back(self, radio, seed=3):
        """What is sent comes back, between other samples; the reference agrees."""
        bits = some_bits(radio.frame.bits(), seed)
        x = halves(0.125, 0) * 3 + radio.sent(bits)[1:] + halves(0, 0.125) * 3
        numbers, found = radio.received(x)
        self.assertEqual(found, bits)
        self.assertEqual(fed(radio, [x]), ([0] + numbers, bits))

    def test_each_q(self):
        for q in (1, 2, 4, 6):
            self.comes_back(radio_of(frame_of(4, 3, 3, q, [1, 2, 5, 14])))

    def test_the_least_and_the_greatest_k(self):
        self.comes_back(radio_of(frame_of(2, 1, 3, 2, [0, 3])))
        self.comes_back(radio_of(frame_of(8, 16, 3, 2, [0, 3, 100, 255])))

    def test_guards(self):
        for guard in (0, 1, 4):
            self.comes_back(radio_of(frame_of(2, guard, 4, 4, [1, 2])))
        self.comes_back(radio_of(frame_of(8, 256, 2, 4, [1, 2])))

    def test_one_carrier_and_all_of_them(self):
        self.comes_back(radio_of(frame_of(3, 2, 3, 4, [5])))
        self.comes_back(radio_of(frame_of(3, 2, 3, 4, [0, 1, 2, 3, 4, 5, 6, 7])))
        self.comes_back(radio_of(frame_of(8, 0, 2, 2, list(range(256)), unit=half(0.5))))

    def test_two_symbols_and_sixty_four(self):
        self.comes_back(radio_of(frame_of(2, 1, 2, 6, [0, 1, 2])))
        self.comes_back(radio_of(frame_of(2, 1, 64, 6, [0, 1, 2])))

    def test_the_order_of_the_carriers(self):
        for carriers in ([1, 6, 3], [6, 3, 1], [3, 1, 6]):
            self.comes_back(radio_of(frame_of(3, 1, 3, 4, carriers)))
        # The same samples, their carriers read in another order: the bits come in that order.
        frame = frame_of(3, 1, 2, 2, [1, 6])
        x = radio_of(frame).sent([1, 0, 0, 1])[1:]
        frame.carriers = [6, 1]
        frame.first = frame.first[2:] + frame.first[:2]
        self.assertEqual(fed(radio_of(frame), [x])[1], [0, 1, 1, 0])

    def test_ways(self):
        # Behind the mark all is turned by i and doubled; the first symbol tells that.
        frame = frame_of(3, 2, 3, 4, [1, 2, 7])
        bits = some_bits(frame.bits(), 8)
        x = radio_of(frame).sent(bits)[1:]
        behind = reference.rr_times(0, x[len(MARK):], halves(0, 2) * (len(x) // 2))[1:]
        self.assertEqual(fed(radio_of(frame), [MARK + behind])[1], bits)

    def test_first_is_taken_by_its_conjugate(self):
        # The carrier came as i where first is i: h is 1. By first itself it were -1, and each bit the other one.
        frame = Frame(2, 0, 2, 1, ONE, halves(0, 0, 0, 0), [0], halves(0, 1))
        x = MARK + halves(0, 1, 0, 0, 0, 0, 0, 0) + halves(0.5, 0, 0, 0, 0, 0, 0, 0)
        self.assertEqual(fed(radio_of(frame), [x])[1], [1])
        frame.first = halves(0, -1)
        self.assertEqual(fed(radio_of(frame), [x])[1], [0])

    def test_the_guard_is_skipped(self):
        frame = frame_of(2, 3, 2, 2, [1])
        for bits in ([0, 0], [0, 1], [1, 0], [1, 1]):
            x = radio_of(frame).sent(bits)[1:]
            x[10:16] = [INF, INF, 0x7C01, 0, half(500), half(-500)]
            x[24:30] = [half(-500), half(99), 0xFFFF, INF, 0, INF]
            self.assertEqual(fed(radio_of(frame), [x])[1], bits)

    def test_the_first_symbol_is_that_of_its_own_frame(self):
        frame = frame_of(2, 1, 2, 2, [1, 3])
        radio = radio_of(frame)
        one, other = [1, 0, 0, 1], [0, 0, 1, 0]
        turned = reference.rr_times(0, radio.sent(other)[1:], halves(-1, 0) * 15)[1:]
        self.assertEqual(fed(radio, [radio.sent(one)[1:] + turned])[1], one + other)

    def test_noise(self):
        for q, seed in ((1, 1), (2, 2), (4, 3), (6, 4)):
            radio = radio_of(frame_of(4, 2, 6, q, [1, 2, 3, 9, 13]), like=half(5))
            x = []
            for frame in range(2):
                x += radio.sent(some_bits(radio.frame.bits(), seed + frame))[1:]
            x = noisy(x, seed)
            numbers, bits = radio.received(x)
            self.assertEqual(fed(radio, [x]), ([0] + numbers, bits))
            self.assertEqual(numbers[2], 2)

    def test_streams_and_roots_of_any_kind(self):
        # Nothing comes back here; only each rounding shows in some of very many bits.
        for k, guard, q in ((2, 0, 6), (3, 1, 6), (4, 0, 4), (5, 7, 6)):
            roots = [bits - 0x1000 for bits in row_of_middling(2**(k - 1), 9)]
            carriers = list(range(0, 2**k, 2)) + [2**k - 1]
            first = row_of_middling(len(carriers), 10)
            frame = Frame(k, guard, 9, q, half(0.25), roots, carriers, first)
            radio = Radio(mark=halves(1, 0), like=0, frame=frame)
            x = row_of_middling(1500, k)
            numbers, bits = radio.received(x)
            self.assertEqual(fed(radio, [x]), ([0] + numbers, bits))
            self.assertTrue(len(bits) > 2000)

    def test_halves_of_any_form(self):
        for seed in range(20):
            frame = Frame(2, seed % 3, 3, 6, half(0.5), row_of_any(2, seed), [0, 3, 1], row_of_any(3, 50 + seed))
            radio = Radio(mark=halves(1, 0), like=0, frame=frame)
            x = row_of_any(100, 70 + seed)
            numbers, bits = radio.received(x)
            self.assertEqual(fed(radio, [x]), ([0] + numbers, bits))


class Pieces(unittest.TestCase):
    """One stream, cut in every way: the bits are the same."""

    def setUp(self):
        self.radio = radio_of(frame_of(3, 2, 3, 4, [1, 4, 6]), like=half(8))
        self.length = 5 + 3 * 10
        self.bits = some_bits(3 * self.radio.frame.bits(), 6)
        each = self.radio.frame.bits()
        self.x = halves(0.25, 0) * 2
        for i in range(3):
            self.x += self.radio.sent(self.bits[i * each:(i + 1) * each])[1:] + halves(0, 0.25) * (3 * i)
        self.expected = self.radio.received(self.x)
        self.assertEqual(self.expected[1], self.bits)

    def cut(self, lengths):
        numbers, bits = self.expected
        self.assertEqual(fed(self.radio, pieces(self.x, lengths)), ([0] + numbers, bits), lengths)

    def test_one_piece(self):
        self.cut(())

    def test_sample_by_sample(self):
        self.assertTrue(len(self.x) // 2 < 290)
        self.cut((1,) * (len(self.x) // 2))

    def test_two_pieces_cut_anywhere(self):
        for length in range(len(self.x) // 2 + 1):
            self.cut((length,))

    def test_three_pieces(self):
        # The first mark has the samples 2 to 6; behind it come guards of 2 and symbols of 8 more.
        for lengths in ((4, 1), (6, 1), (7, 1), (8, 1), (9, 3), (10, 9), (16, 1), (17, 1), (36, 1), (37, 1), (38, 2)):
            self.cut(lengths)

    def test_pieces_of_one_length(self):
        for length in (2, 3, 5, 7, 10, 11, 35, 36):
            self.cut((length,) * (len(self.x) // 2 // length))

    def test_empty_pieces(self):
        self.cut((0,))
        self.cut((0, 0, 5, 0, 1, 0, 20, 0, 0, 30, 0))
        self.cut((len(self.x) // 2, 0, 0))
        self.assertEqual(told(rd_open(), rd_feed([]), rd_tell())[1:], [[0], [0, 0, 0, 0, 0, 0]])

    def test_bits_are_told_as_soon_as_a_symbol_is_whole(self):
        set_calls = calls_for(self.radio)
        feeds = [rd_feed(self.x[i:i + 2]) for i in range(0, len(self.x), 2)]
        answered = told(*set_calls, *feeds)[len(set_calls):]
        found = []
        for i, answer in enumerate(answered):
            found += answer[1:]
            self.assertEqual(answer[0], len(answer) - 1)
            self.assertEqual(found, self.radio.received(self.x[:2 * i + 2])[1], i)
        # The first frame begins behind 2 samples: bits come with its second symbol and its third.
        told_at = [i + 1 for i, answer in enumerate(answered) if answer[0] > 0]
        self.assertEqual(told_at[:2], [2 + 5 + 20, 2 + 5 + 30])
        self.assertEqual([answer[0] for answer in answered if answer[0] > 0], [12] * 6)

    def test_with_a_tone_and_a_filter(self):
        self.radio.table = halves(1, 0, 0, 1, -1, 0)
        self.radio.taps = halves(1, 0, 0.25, -0.25, 0, 0.125)
        for down in (1, 2, 3):
            self.radio.down = down
            self.radio.like = ONE
            self.expected = self.radio.received(self.x)
            self.assertTrue(self.expected[0][4] > 0)
            for lengths in ((), (1,) * 90, (2, 3, 4) * 10, (0, 50), (7,) * 14):
                self.cut(lengths)

    def test_a_noisy_stream(self):
        self.x = noisy(self.x, 5)
        self.expected = self.radio.received(self.x)
        for lengths in ((), (1,) * (len(self.x) // 2), (2, 3, 4) * 10, (13,) * 8):
            self.cut(lengths)

    def test_4096_samples(self):
        x = (self.x * 40)[:8192]
        numbers, bits = self.radio.received(x)
        answered = told(*calls_for(self.radio), rd_feed(x), rd_tell())
        self.assertEqual(answered[-2], [len(bits)] + bits)
        self.assertEqual(answered[-1], [0] + numbers)
        self.assertEqual(numbers[:2], [4096, 4096])

    def test_a_frame_that_is_cut_off(self):
        for left in range(1, 30):
            x = self.x[:len(self.x) - 2 * left]
            numbers, bits = self.radio.received(x)
            self.assertEqual(fed(self.radio, pieces(x, (40,))), ([0] + numbers, bits))

    def test_n_is_refused(self):
        for n in (-1, 4097, *ENDS):
            feeds = [rd_feed(self.x[:60]), rd_feed([], n), rd_feed(self.x[60:])]
            answered = told(*calls_for(self.radio), *feeds, rd_tell())
            self.assertEqual(answered[-3], [-2])
            self.assertEqual(answered[-4][1:] + answered[-2][1:], self.bits)
            self.assertEqual(answered[-1], [0] + self.expected[0])


class Refusals(unittest.TestCase):
    """rd_frame with numbers that it refuses."""

    def answer(self, k=2, guard=1, symbols=3, q=2, unit=ONE, carriers=(0, 3), n=None):
        """What is answered; the lists are there only where the number that tells their length is in its range."""
        n = len(carriers) if n is None else n
        carriers = list(carriers) if 1 <= n <= 256 else []
        roots = unit_roots(k) if 2 <= k <= 8 else []
        call = rd_frame(k, guard, symbols, q, unit, roots, carriers, halves(1, 0) * len(carriers), n)
        answered = told(rd_open(), rd_mark(0, halves(1, 0)), call, rd_feed(halves(1, 0)), rd_tell(), rd_send(0, [0]))
        # Where it is refused there is still no frame.
        self.assertEqual(answered[4][3], 1 if answered[2] == [0] else 0)
        self.assertEqual(answered[5] == [-3], answered[2] != [0])
        return answered[2]

    def test_k(self):
        for k in (-1, 0, 1, 9, *ENDS):
            self.assertEqual(self.answer(k=k), [-2])
        for k in range(2, 9):
            self.assertEqual(self.answer(k=k), [0])

    def test_guard(self):
        for guard in (-1, 257, *ENDS):
            for k in (2, 8):
                self.assertEqual(self.answer(k=k, guard=guard), [-2])
        for guard in (0, 1, 255, 256):
            self.assertEqual(self.answer(k=8, guard=guard), [0])

    def test_n(self):
        for n in (-1, 0, 257, *ENDS):
            self.assertEqual(self.answer(n=n), [-2])
        self.assertEqual(self.answer(carriers=(0,)), [0])
        self.assertEqual(self.answer(k=8, carriers=range(256)), [0])

    def test_symbols(self):
        for symbols in (-1, 0, 1, 65, *ENDS):
            self.assertEqual(self.answer(symbols=symbols), [-2])
        for symbols in (2, 64):
            self.assertEqual(self.answer(symbols=symbols), [0])

    def test_q(self):
        for q in OUTSIDE_Q:
            self.assertEqual(self.answer(q=q), [-2])
        for q in (1, 2, 4, 6):
            self.assertEqual(self.answer(q=q), [0])

    def test_unit(self):
        for unit in WRONG_UNITS + NAN_FORMS[::40] + [0x7C01, 0x7FFF, 0xFC01, 0xFFFF]:
            self.assertEqual(self.answer(unit=unit), [-2])
        for unit in (half(2.0**-14), ONE, half(4096)):
            self.assertEqual(self.answer(unit=unit), [0])

    def test_a_guard_longer_than_a_symbol(self):
        for k in range(2, 8):
            self.assertEqual(self.answer(k=k, guard=2**k), [0])
            self.assertEqual(self.answer(k=k, guard=2**k + 1), [-5])
            self.assertEqual(self.answer(k=k, guard=256), [-5])

    def test_a_carrier_beyond_a_symbol(self):
        for k in range(2, 8):
            self.assertEqual(self.answer(k=k, carriers=(0, 2**k - 1)), [0])
            for carriers in ((0, 2**k), (2**k, 0), (2**k,), (1, 255), (1, 255, 2)):
                self.assertEqual(self.answer(k=k, carriers=carriers), [-5], carriers)

    def test_a_carrier_twice(self):
        for carriers in ((0, 0), (3, 3), (1, 2, 1), (2, 1, 1), (1, 1, 2), (0, 1, 2, 3, 0)):
            self.assertEqual(self.answer(carriers=carriers), [-5], carriers)
        self.assertEqual(self.answer(k=8, carriers=list(range(255)) + [0]), [-5])
        self.assertEqual(self.answer(k=8, carriers=list(range(255)) + [254]), [-5])
        self.assertEqual(self.answer(k=7, carriers=list(range(128)) * 2), [-5])

    def test_both_at_once(self):
        wrong = ({"guard": 5}, {"carriers": (0, 4)}, {"carriers": (3, 3)})
        for places in wrong:
            self.assertEqual(self.answer(**places), [-5])
            for numbers in ({"symbols": 1}, {"symbols": 65}, {"q": 3}, {"unit": 0}, {"unit": 0x7C01}):
                self.assertEqual(self.answer(**places, **numbers), [-2])
            if "guard" not in places:
                self.assertEqual(self.answer(**places, guard=257), [-2])
                self.assertEqual(self.answer(**places, guard=-1), [-2])
                self.assertEqual(self.answer(**places, k=9), [-2])
                self.assertEqual(self.answer(**places, k=1), [-2])
        self.assertEqual(self.answer(guard=5, n=0), [-2])
        self.assertEqual(self.answer(guard=5, k=1), [-2])

    def test_two_numbers_at_once(self):
        self.assertEqual(self.answer(k=9, n=257), [-2])
        self.assertEqual(self.answer(k=1, guard=-1, symbols=1, q=0, unit=0, n=0), [-2])

    def test_a_refused_frame_leaves_the_one_before(self):
        radio = radio_of(frame_of(2, 1, 2, 2, [1, 3]))
        bits = [1, 0, 0, 1]
        x = radio.sent(bits)[1:]
        for call, refusal in (
            (rd_frame(2, 5, 2, 2, ONE, unit_roots(2), [0, 1], halves(1, 0, 1, 0)), -5),
            (rd_frame(2, 0, 2, 2, ONE, unit_roots(2), [0, 0], halves(1, 0, 1, 0)), -5),
            (rd_frame(2, 0, 2, 2, ONE, unit_roots(2), [0, 4], halves(1, 0, 1, 0)), -5),
            (rd_frame(2, 0, 2, 3, ONE, unit_roots(2), [0, 1], halves(1, 0, 1, 0)), -2),
            (rd_frame(9, 0, 2, 2, ONE, [], [0, 1], halves(1, 0, 1, 0)), -2),
        ):
            answered = told(*calls_for(radio), rd_feed(x[:20]), call, rd_feed(x[20:]), rd_tell())
            self.assertEqual(answered[-3:], [[refusal], [4] + bits, [0, 15, 15, 1, 2, 4]])


if __name__ == "__main__":
    unittest.main()
