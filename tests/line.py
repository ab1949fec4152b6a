"""Lines of calls for the tests: how a call stands in the list, and the answers taken apart."""

import cmath

from halfradio.radio import answers
from tests.reference import Fraction, half, nearest

ONE = half(1)


def rd_open():
    return [20]


def rd_tone(table, n=None):
    return [21, len(table) // 2 if n is None else n, *row(table)]


def rd_filter(down, taps, n=None):
    return [22, len(taps) // 2 if n is None else n, down, *row(taps)]


def rd_mark(like, mark, n=None):
    return [23, len(mark) // 2 if n is None else n, like, *row(mark)]


def rd_frame(k, guard, symbols, q, unit, roots, carriers, first, n=None):
    numbers = [k, guard, len(carriers) if n is None else n, symbols, q, unit]
    return [24, *numbers, *row(roots), *row(carriers), *row(first)]


def rd_feed(x, n=None):
    return [25, len(x) // 2 if n is None else n, *row(x)]


def rd_tell():
    return [26]


def rd_send(most, bits):
    return [27, most, *row(bits)]


def row(numbers):
    return [len(numbers), *numbers]


def told(*calls):
    """What each of some calls answers, on a radio that is new."""
    return taken_apart(answers([number for call in calls for number in call]), len(calls))


def taken_apart(numbers, count):
    found = []
    place = 0
    while place < len(numbers):
        found.append(numbers[place + 1:place + 1 + numbers[place]])
        place += 1 + numbers[place]
    if place != len(numbers) or len(found) != count:
        raise AssertionError(f"{len(found)} answers, not {count}, or the last one is cut off")
    return found


def unit_roots(k):
    """The roots of a transform of 2^k, each part rounded."""
    found = []
    for j in range(2**(k - 1)):
        root = cmath.exp(-2j * cmath.pi * j / 2**k)
        found += [nearest(Fraction(root.real)), nearest(Fraction(root.imag))]
    return found


def calls_for(radio):
    """The calls that set a new radio as the reference's radio is set."""
    calls = [rd_open()]
    if radio.table:
        calls.append(rd_tone(radio.table))
    if (radio.taps, radio.down) != ([ONE, 0], 1):
        calls.append(rd_filter(radio.down, radio.taps))
    if radio.mark:
        calls.append(rd_mark(radio.like, radio.mark))
    if radio.frame:
        calls.append(rd_frame(*radio.frame.values()))
    return calls


def pieces(x, lengths):
    """A row of complex halves, cut into pieces of some lengths and what is left behind these."""
    found = []
    place = 0
    for length in lengths:
        found.append(x[place:place + 2 * length])
        place += 2 * length
    return found + [x[place:]]


def fed(radio, parts):
    """All bits that a stream tells, handed over in parts, and what rd_tell tells then."""
    calls = calls_for(radio)
    answered = told(*calls, *[rd_feed(part) for part in parts], rd_tell())
    bits = []
    for answer in answered[len(calls):-1]:
        if answer[0] != len(answer) - 1:
            raise AssertionError(f"{answer[0]} bits are told to come, and there are {len(answer) - 1}")
        bits += answer[1:]
    return answered[-1], bits
