"""Whole lines of calls in any order, each answer compared with the reference."""

import random
import unittest

from tests.line import rd_feed, rd_filter, rd_frame, rd_mark, rd_open, rd_send, rd_tell, rd_tone, told, unit_roots
from tests.reference import half, halves, row_of_any, row_of_middling
from tests.reference_radio import Frame, Radio

UNITS = (half(0.25), half(0.5), half(1), half(3))


class Line:
    """Calls made up one behind another, and what each is to answer."""

    def __init__(self, seed):
        self.chance = random.Random(seed)
        self.radio = Radio()
        self.calls = [rd_open()]
        self.expected = [[0]]
        self.begin()

    def begin(self):
        self.x = []
        self.bits_told = 0

    def row(self, n):
        make = row_of_any if self.chance.random() < 0.1 else row_of_middling
        return make(n, self.chance.randrange(10**6))

    def put(self, call, answer):
        self.calls.append(call)
        self.expected.append(answer)

    def setting(self):
        radio, chance = self.radio, self.chance
        choice = chance.randrange(6)
        if choice == 0:
            radio.table = self.row(chance.randrange(4))
            self.put(rd_tone(radio.table), [0])
        elif choice == 1:
            radio.taps, radio.down = self.row(chance.randrange(1, 4)), chance.choice((1, 1, 2, 3))
            self.put(rd_filter(radio.down, radio.taps), [0])
        elif choice == 2:
            radio.mark, radio.like = self.row(chance.randrange(1, 4)), half(chance.choice((0, 0.5, 1, 4, 50)))
            self.put(rd_mark(radio.like, radio.mark), [0])
        elif choice == 5 and chance.random() < 0.2:
            self.radio = Radio()
            self.put(rd_open(), [0])
        else:
            k = chance.randrange(2, 4)
            carriers = chance.sample(range(2**k), chance.randrange(1, 5))
            roots = unit_roots(k) if chance.random() < 0.5 else self.row(2**(k - 1))
            guard, symbols, q = chance.randrange(2**k + 1), chance.randrange(2, 5), chance.choice((1, 2, 4, 6))
            first = halves(1, 0) * len(carriers) if chance.random() < 0.5 else self.row(len(carriers))
            radio.frame = Frame(k, guard, symbols, q, chance.choice(UNITS), roots, carriers, first)
            self.put(rd_frame(*radio.frame.values()), [0])
        self.begin()

    def refused(self):
        self.put(*self.chance.choice((
            (rd_tone([], 1025), [-2]),
            (rd_filter(17, halves(1, 0)), [-2]),
            (rd_mark(half(-1), halves(1, 0)), [-2]),
            (rd_frame(2, 5, 2, 2, half(1), unit_roots(2), [0], halves(1, 0)), [-5]),
            (rd_feed([], -1), [-2]),
            (rd_send(-1, []), [-2]),
        )))

    def feed(self, x):
        self.x += x
        _, bits = self.radio.received(self.x)
        self.put(rd_feed(x), [len(bits) - self.bits_told] + bits[self.bits_told:])
        self.bits_told = len(bits)

    def send(self):
        frame = self.radio.frame
        if not (self.radio.mark and frame):
            self.put(rd_send(99, [1]), [-3])
            return
        bits = [self.chance.randrange(2) for _ in range(frame.bits())]
        sent = self.radio.sent(bits)
        self.put(rd_send(32832, bits), sent)
        self.put(rd_send(sent[0] - 1, bits), [-1])
        if self.chance.random() < 0.7:
            self.feed(sent[1:])

    def grow(self, count):
        for _ in range(count):
            choice = self.chance.random()
            if choice < 0.2:
                self.setting()
            elif choice < 0.3:
                self.refused()
            elif choice < 0.75:
                self.feed(self.row(self.chance.choice((0, 1, 2, 5, 12, 30))))
            elif choice < 0.9:
                self.send()
            else:
                self.put(rd_tell(), [0] + self.radio.received(self.x)[0])


class Lines(unittest.TestCase):
    def test_lines(self):
        bits = 0
        for seed in range(60):
            line = Line(seed)
            for _ in range(4):
                line.setting()
            line.grow(40)
            for call, answer, expected in zip(line.calls, told(*line.calls), line.expected):
                self.assertEqual(answer, expected, (seed, call[:9]))
                bits += answer[0] if call[0] == 25 else 0
        # The lines aren't such that nothing is ever found.
        self.assertTrue(bits > 3000)


if __name__ == "__main__":
    unittest.main()
