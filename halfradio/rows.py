"""The calls on rows: each answers a list, a refusal or 0 and what is told."""

from halfradio.halves import add_product, bits_of, conjugate, part_of, plus, product

MOST = 4096
SUMS = 16


def rr_times(n, how, x, y):
    if refused(n, how):
        return [-2]
    xs = pairs_of(x)
    ys = factors_of(how, y)
    return told([product(xs[i], ys[i]) for i in range(n)])


def rr_more(n, how, x, y, s):
    if refused(n, how):
        return [-2]
    xs = pairs_of(x)
    ys = factors_of(how, y)
    ss = pairs_of(s)
    return told([add_product(xs[i], ys[i], ss[i]) for i in range(n)])


def rr_dot(n, how, x, y):
    if refused(n, how):
        return [-2]
    xs = pairs_of(x)
    ys = factors_of(how, y)
    sums = [(0, 0)] * SUMS
    for i in range(n):
        sums[i % SUMS] = add_product(xs[i], ys[i], sums[i % SUMS])
    real = folded([pair[0] for pair in sums])
    imaginary = folded([pair[1] for pair in sums])
    return told([(real, imaginary)])


def refused(n, how):
    return n < 0 or n > MOST or how < 0 or how > 1


def pairs_of(numbers):
    """The complex halves of a list that tells each by two numbers."""
    return [(part_of(numbers[i]), part_of(numbers[i + 1])) for i in range(0, len(numbers), 2)]


def factors_of(how, numbers):
    """The complex halves of a list, or their conjugates where how is 1."""
    pairs = pairs_of(numbers)
    return [conjugate(pair) for pair in pairs] if how == 1 else pairs


def folded(parts):
    """The sum of parts, as many as a power of 2: the last half is added to the first till one is left."""
    left = parts
    while len(left) > 1:
        middle = len(left) // 2
        left = [plus(left[i], left[i + middle]) for i in range(middle)]
    return left[0]


def told(pairs):
    """The answer that isn't a refusal: 0, then complex halves, number by number."""
    answer = [0]
    for pair in pairs:
        answer.append(bits_of(pair[0]))
        answer.append(bits_of(pair[1]))
    return answer
