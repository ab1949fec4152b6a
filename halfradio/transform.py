"""The transform of complex halves."""

from halfradio.halves import add_product, negative


def transformed(pairs, roots):
    """The transform of complex halves, as many as a power of 2, with half as many roots."""
    row = [pairs[place] for place in turned_places(len(pairs))]
    h = 1
    while h < len(row):
        step = len(row) // (2 * h)
        for start in range(0, len(row), 2 * h):
            for j in range(h):
                u = row[start + j]
                v = row[start + j + h]
                w = roots[j * step]
                row[start + j] = add_product(v, w, u)
                row[start + j + h] = add_product(negative(v), w, u)
        h = 2 * h
    return row


def turned_places(count):
    """The numbers below count, a power of 2, each with its bits the other way round, in order."""
    places = [0]
    while len(places) < count:
        places = [2 * place for place in places] + [2 * place + 1 for place in places]
    return places
