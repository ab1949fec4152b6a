"""The radio: a line of calls on one object, and what they answer."""

from halfradio.frames import Frame, wrong_places, wrong_sizes
from halfradio.halves import ONE, at_most, numbers_of, pairs_of, part_of
from halfradio.points import wrong_bits, wrong_points
from halfradio.stream import Finder, Tuner

RD_OPEN = 20
RD_TONE = 21
RD_FILTER = 22
RD_MARK = 23
RD_FRAME = 24
RD_FEED = 25
RD_TELL = 26
RD_SEND = 27

# Of each call, from rd_open on: how many whole numbers it has behind its own, and how many rows behind these.
SHAPES = ((0, 0), (1, 1), (2, 1), (2, 1), (6, 3), (1, 1), (0, 0), (1, 1))

MOST_TURNS = 1024
MOST_TAPS = 64
MOST_DOWN = 16
MOST_IN_MARK = 64
MOST_FED = 4096
MOST_BITS = 96768
MOST_SENT = 32832


def answers(calls):
    radio = Radio()
    told = []
    place = 0
    while place < len(calls):
        number = calls[place]
        shape = SHAPES[number - RD_OPEN]
        place += 1 + shape[0]
        numbers = calls[place - shape[0]:place]
        rows = []
        for i in range(shape[1]):
            end = place + 1 + calls[place]
            rows.append(calls[place + 1:end])
            place = end
        answer = answer_of(radio, number, numbers, rows)
        told.append(len(answer))
        told.extend(answer)
    return told


def answer_of(radio, number, numbers, rows):
    """What one call answers, by its number, its whole numbers and its rows."""
    if number == RD_TONE:
        return radio.rd_tone(numbers[0], rows[0])
    if number == RD_FILTER:
        return radio.rd_filter(numbers[0], numbers[1], rows[0])
    if number == RD_MARK:
        return radio.rd_mark(numbers[0], numbers[1], rows[0])
    if number == RD_FRAME:
        return radio.rd_frame(numbers, rows[0], rows[1], rows[2])
    if number == RD_FEED:
        return radio.rd_feed(numbers[0], rows[0])
    if number == RD_TELL:
        return radio.rd_tell()
    if number == RD_SEND:
        return radio.rd_send(numbers[0], rows[0])
    return radio.rd_open()


class Radio:
    """What was set, and the stream since it began; each call gives back its answer as a list."""

    def __init__(self):
        self.rd_open()

    def rd_open(self):
        self.table = []
        self.taps = [(ONE, 0)]
        self.down = 1
        self.mark = []
        self.like = 0
        self.frame = None
        return self.begin()

    def begin(self):
        """Begins the stream anew, with what is set by now."""
        self.tuner = Tuner(self.table, self.taps, self.down)
        self.finder = Finder(self.mark, self.like, self.frame)
        return [0]

    def rd_tone(self, n, table):
        if n < 0 or n > MOST_TURNS:
            return [-2]
        self.table = pairs_of(table)
        return self.begin()

    def rd_filter(self, n, down, taps):
        if n < 1 or n > MOST_TAPS or down < 1 or down > MOST_DOWN:
            return [-2]
        self.taps = pairs_of(taps)
        self.down = down
        return self.begin()

    def rd_mark(self, n, like, mark):
        if n < 1 or n > MOST_IN_MARK or not at_most(0, part_of(like)):
            return [-2]
        self.mark = pairs_of(mark)
        self.like = part_of(like)
        return self.begin()

    def rd_frame(self, numbers, roots, carriers, first):
        """Of the numbers k, guard, n, symbols, q and unit, in this order."""
        k = numbers[0]
        guard = numbers[1]
        symbols = numbers[3]
        q = numbers[4]
        unit = part_of(numbers[5])
        if wrong_sizes(k, guard, numbers[2], symbols) or wrong_points(q, unit):
            return [-2]
        if wrong_places(k, guard, carriers):
            return [-5]
        self.frame = Frame(k, guard, symbols, q, unit, pairs_of(roots), carriers, pairs_of(first))
        return self.begin()

    def rd_feed(self, n, x):
        if n < 0 or n > MOST_FED:
            return [-2]
        self.tuner.take(pairs_of(x))
        bits = self.finder.look(self.tuner.kept)
        return [len(bits)] + bits

    def rd_tell(self):
        finder = self.finder
        return [0, len(self.tuner.turned), len(self.tuner.kept), finder.marks, finder.whole, finder.bits]

    def rd_send(self, most, bits):
        if len(bits) > MOST_BITS or most < 0 or most > MOST_SENT:
            return [-2]
        if len(self.mark) == 0 or self.frame is None:
            return [-3]
        if len(bits) != self.frame.bits_in_all() or wrong_bits(bits):
            return [-5]
        count = len(self.mark) + self.frame.symbols * self.frame.symbol_length()
        if count > most:
            return [-1]
        return [count] + numbers_of(self.mark) + self.frame.numbers_sent(bits)
