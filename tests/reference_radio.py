"""What the document says of a radio, written a second time for the tests: of a whole stream at once."""

import dataclasses

from tests.reference import ONE, added, decide, flat, fma, not_above, pairs, plain, point, scale, square
from tests.reference import times, transform, value


@dataclasses.dataclass
class Frame:
    k: int
    guard: int
    symbols: int
    q: int
    unit: int
    roots: list
    carriers: list
    first: list

    def values(self):
        return [getattr(self, field.name) for field in dataclasses.fields(self)]

    def spectrum(self, samples):
        found = transform(0, samples[self.guard:], pairs(self.roots))
        return [found[carrier] for carrier in self.carriers]

    def length(self):
        return self.guard + 2**self.k

    def bits(self):
        return len(self.carriers) * self.q * (self.symbols - 1)


@dataclasses.dataclass
class Radio:
    table: list = dataclasses.field(default_factory=list)
    taps: list = dataclasses.field(default_factory=lambda: [ONE, 0])
    down: int = 1
    mark: list = dataclasses.field(default_factory=list)
    like: int = 0
    frame: Frame = None

    def kept(self, x):
        turned = pairs(x)
        if self.table:
            table = pairs(self.table)
            turned = [times(0, sample, table[i % len(table)]) for i, sample in enumerate(turned)]
        return [self.filtered(turned[:i + 1]) for i in range(0, len(turned), self.down)]

    def filtered(self, turned):
        total = (0, 0)
        for sample, tap in zip(reversed(turned), pairs(self.taps)):
            total = added(0, sample, tap, total)
        return total

    def stands(self, samples):
        c, e = (0, 0), 0
        for sample, known in zip(samples, pairs(self.mark)):
            c = added(1, sample, known, c)
            e = fma(sample[1], sample[1], fma(sample[0], sample[0], e))
        return value(square(c)) > 0 and not_above(fma(self.like, e, 0), square(c))

    def received(self, x):
        """The five numbers that rd_tell tells behind its 0, and all bits."""
        kept = self.kept(x)
        marks, symbols, bits = 0, 0, []
        place, count = 0, len(self.mark) // 2
        while self.mark and self.frame and place + count <= len(kept):
            if not self.stands(kept[place:place + count]):
                place += 1
                continue
            marks += 1
            place += count
            ways = None
            for _ in range(self.frame.symbols):
                samples = kept[place:place + self.frame.length()]
                place += self.frame.length()
                if place > len(kept):
                    break
                symbols += 1
                spectrum = self.frame.spectrum(samples)
                if ways is None:
                    ways = [times(1, s, f) for s, f in zip(spectrum, pairs(self.frame.first))]
                else:
                    bits += [bit for s, h in zip(spectrum, ways) for bit in decide(self.frame.q, self.frame.unit, h, s)]
        return [len(x) // 2, len(kept), marks, symbols, len(bits)], bits

    def sent(self, bits):
        frame = self.frame
        points = [point(frame.q, frame.unit, bits[i:i + frame.q]) for i in range(0, len(bits), frame.q)]
        n = len(frame.carriers)
        samples = [(plain(a), plain(b)) for a, b in pairs(self.mark)]
        for on_carriers in [pairs(frame.first)] + [points[i:i + n] for i in range(0, len(points), n)]:
            places = dict(zip(frame.carriers, on_carriers))
            whole = transform(1, [places.get(i, (0, 0)) for i in range(2**frame.k)], pairs(frame.roots))
            whole = [(scale(-frame.k, a), scale(-frame.k, b)) for a, b in whole]
            samples += whole[len(whole) - frame.guard:] + whole
        return [len(samples)] + flat(samples)
