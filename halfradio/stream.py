"""A stream of samples, from its first one on: which are kept, and what is found among these."""

from halfradio.halves import add_product, at_most, conjugate, fma, product, square


class Tuner:
    """Turns the samples by a tone, filters them and thins them out."""

    def __init__(self, table, taps, down):
        self.table = table
        self.taps = taps
        self.down = down
        self.turned = []
        self.kept = []

    def take(self, samples):
        for sample in samples:
            number = len(self.turned)
            self.turned.append(self.turned_by_tone(number, sample))
            if number % self.down == 0:
                self.kept.append(self.filtered(number))

    def turned_by_tone(self, number, sample):
        if len(self.table) == 0:
            return sample
        return product(sample, self.table[number % len(self.table)])

    def filtered(self, number):
        """The sum of the turned samples from a number on backwards, each by its tap."""
        total = (0, 0)
        for j in range(min(len(self.taps), number + 1)):
            total = add_product(self.turned[number - j], self.taps[j], total)
        return total


class Finder:
    """Finds marks among the samples kept, and takes the frames behind them apart."""

    def __init__(self, mark, like, frame):
        self.factors = [conjugate(pair) for pair in mark]
        self.like = like
        self.frame = frame
        # Where the next mark is looked for, or the next symbol begins.
        self.place = 0
        # How many symbols of the frame are still to come; 0: a mark is looked for.
        self.left = 0
        self.ways = []
        self.marks = 0
        self.whole = 0
        self.bits = 0

    def look(self, kept):
        """The bits that weren't told before, of all samples kept so far."""
        found = []
        if len(self.factors) == 0 or self.frame is None:
            return found
        going = True
        while going:
            going = self.find_mark(kept) if self.left == 0 else self.take_symbol(kept, found)
        self.bits += len(found)
        return found

    def find_mark(self, kept):
        """Goes on to what is behind the next mark, and says whether there is one."""
        count = len(self.factors)
        while self.place + count <= len(kept):
            if self.stands(kept[self.place:self.place + count]):
                self.place += count
                self.left = self.frame.symbols
                self.marks += 1
                return True
            self.place += 1
        return False

    def stands(self, samples):
        """Whether the mark stands in as many samples as it has."""
        c = (0, 0)
        for sample, factor in zip(samples, self.factors):
            c = add_product(sample, factor, c)
        size = square(c)
        return size != 0 and at_most(fma(self.like, energy_of(samples), 0), size)

    def take_symbol(self, kept, found):
        """Goes on to what is behind the next symbol, and says whether it is whole; its bits are found."""
        end = self.place + self.frame.symbol_length()
        if end > len(kept):
            return False
        spectrum = self.frame.spectrum(kept[self.place:end])
        if self.left == self.frame.symbols:
            self.ways = self.frame.ways_of(spectrum)
        else:
            found.extend(self.frame.bits_told(spectrum, self.ways))
        self.place = end
        self.left -= 1
        self.whole += 1
        return True


def energy_of(samples):
    energy = 0
    for sample in samples:
        energy = fma(sample[1], sample[1], fma(sample[0], sample[0], energy))
    return energy
