"""Frames: the symbols behind a mark, taken apart and put together."""

from halfradio.halves import conjugate, numbers_of, product, scaled
from halfradio.points import axis_width, decided, points_of, steps_of
from halfradio.transform import transformed

LEAST_DOUBLINGS = 2
MOST_DOUBLINGS = 8
MOST_GUARD = 256
MOST_CARRIERS = 256
LEAST_SYMBOLS = 2
MOST_SYMBOLS = 64


def wrong_sizes(k, guard, n, symbols):
    """Whether one of a frame's numbers isn't in its range."""
    return (
        k < LEAST_DOUBLINGS or k > MOST_DOUBLINGS
        or guard < 0 or guard > MOST_GUARD
        or n < 1 or n > MOST_CARRIERS
        or symbols < LEAST_SYMBOLS or symbols > MOST_SYMBOLS
    )


def wrong_places(k, guard, carriers):
    """Whether the guard is longer than a symbol, or the carriers aren't different places of it."""
    size = 1 << k
    return guard > size or max(carriers) >= size or len(set(carriers)) < len(carriers)


class Frame:
    """What a frame is like; unit is a part, and roots and first are pairs."""

    def __init__(self, k, guard, symbols, q, unit, roots, carriers, first):
        self.k = k
        self.guard = guard
        self.symbols = symbols
        self.q = q
        self.unit = unit
        self.roots = roots
        self.carriers = carriers
        self.first = first
        self.steps = steps_of(unit, axis_width(q))
        # The symbols that were put together so far, by their bits: few bits tell few symbols.
        self.made = {}

    def symbol_length(self):
        return self.guard + (1 << self.k)

    def symbol_bits(self):
        return self.q * len(self.carriers)

    def bits_in_all(self):
        return self.symbol_bits() * (self.symbols - 1)

    def spectrum(self, samples):
        """The carriers of a symbol, whose samples come with its guard."""
        row = transformed(samples[self.guard:], self.roots)
        return [row[carrier] for carrier in self.carriers]

    def ways_of(self, spectrum):
        """How each carrier came, by the spectrum of a frame's first symbol."""
        return [product(x, conjugate(known)) for x, known in zip(spectrum, self.first)]

    def bits_told(self, spectrum, ways):
        """The bits of a symbol that isn't a frame's first."""
        bits = []
        for x, h in zip(spectrum, ways):
            bits.extend(decided(self.q, self.steps, h, x))
        return bits

    def numbers_sent(self, bits):
        """The numbers that tell all symbols of a frame, one behind another."""
        numbers = list(self.symbol_sent([]))
        step = self.symbol_bits()
        for start in range(0, len(bits), step):
            numbers.extend(self.symbol_sent(bits[start:start + step]))
        return numbers

    def symbol_sent(self, bits):
        """The numbers that tell a symbol; without bits it is a frame's first."""
        code = tuple(bits)
        if code not in self.made:
            points = points_of(self.q, self.unit, bits) if len(bits) > 0 else self.first
            self.made[code] = numbers_of(self.samples_of(points))
        return self.made[code]

    def samples_of(self, points):
        """The samples of a symbol with a point on each carrier, and before them its guard."""
        size = 1 << self.k
        row = [(0, 0)] * size
        for carrier, point in zip(self.carriers, points):
            row[carrier] = point
        back = transformed(row, [conjugate(root) for root in self.roots])
        samples = [(scaled(pair[0], -self.k), scaled(pair[1], -self.k)) for pair in back]
        return samples[size - self.guard:] + samples
