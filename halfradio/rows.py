"""The calls on rows: each answers a list, a refusal or 0 and what is told."""

from halfradio.halves import INFINITE, NORMAL, UNIT_BITS
from halfradio.halves import add_product, at_most, bits_of, conjugate, finite, fma, nearest, no_number
from halfradio.halves import numbers_of, pairs_of, part_of, parts_of, plus, product, rounded, scaled
from halfradio.points import axis_width, decided, points_of, steps_of, wrong_bits, wrong_points
from halfradio.transform import transformed

MOST = 4096
MOST_DOUBLINGS = 10
MOST_SCALE = 64
SUMS = 16
KINDS = 6
GREATEST_WORD = 32767
WORDS = 65536


def rr_times(n, how, x, y):
    if wrong_count(n) or wrong_how(how):
        return [-2]
    xs = pairs_of(x)
    ys = factors_of(how, y)
    return told([product(xs[i], ys[i]) for i in range(n)])


def rr_more(n, how, x, y, s):
    if wrong_count(n) or wrong_how(how):
        return [-2]
    xs = pairs_of(x)
    ys = factors_of(how, y)
    ss = pairs_of(s)
    return told([add_product(xs[i], ys[i], ss[i]) for i in range(n)])


def rr_dot(n, how, x, y):
    if wrong_count(n) or wrong_how(how):
        return [-2]
    xs = pairs_of(x)
    ys = factors_of(how, y)
    sums = [(0, 0)] * SUMS
    for i in range(n):
        sums[i % SUMS] = add_product(xs[i], ys[i], sums[i % SUMS])
    real = folded([pair[0] for pair in sums])
    imaginary = folded([pair[1] for pair in sums])
    return told([(real, imaginary)])


def rr_power(n, x):
    if wrong_count(n):
        return [-2]
    parts = parts_of(x)
    # Real and imaginary parts alternate, so the two kinds of sums do too.
    sums = [0] * (2 * SUMS)
    for i in range(2 * n):
        sums[i % (2 * SUMS)] = fma(parts[i], parts[i], sums[i % (2 * SUMS)])
    return [0, bits_of(folded(sums))]


def rr_transform(k, how, x, roots):
    if k < 0 or k > MOST_DOUBLINGS or wrong_how(how):
        return [-2]
    return told(transformed(pairs_of(x), factors_of(how, roots)))


def rr_scale(n, k, x):
    if wrong_count(n) or wrong_scale(k):
        return [-2]
    return told_parts([scaled(part, k) for part in parts_of(x)])


def rr_limit(n, bound, x):
    limit = part_of(bound)
    if wrong_count(n) or not at_most(0, limit):
        return [-2]
    return told_parts([limited(part, limit) for part in parts_of(x)])


def rr_kinds(n, x):
    if wrong_count(n):
        return [-2]
    counts = [0] * KINDS
    for part in parts_of(x):
        counts[kind_of(part)] += 1
    return [0] + counts


def rr_top(n, x):
    if wrong_count(n):
        return [-100]
    sizes = [abs(part) for part in parts_of(x) if finite(part)]
    # 0 has no bit, and so comes out as one less than the least half: that's -25.
    return [max(sizes, default=0).bit_length() - 1 - UNIT_BITS]


def rr_words(n, k, w):
    if wrong_count(n) or wrong_scale(k):
        return [-2]
    return told_parts([scaled(part_of_word(word), k) for word in w])


def rr_to_words(n, k, x):
    if wrong_count(n) or wrong_scale(k):
        return [-2]
    return [0] + [word_of(scaled(part, k)) for part in parts_of(x)]


def rr_points(n, q, unit, bits):
    size = part_of(unit)
    if wrong_count(n) or wrong_points(q, size):
        return [-2]
    if wrong_bits(bits):
        return [-5]
    return told(points_of(q, size, bits))


def rr_decide(n, q, unit, h, x):
    size = part_of(unit)
    if wrong_count(n) or wrong_points(q, size):
        return [-2]
    hs = pairs_of(h)
    xs = pairs_of(x)
    steps = steps_of(size, axis_width(q))
    answer = [0]
    for i in range(n):
        answer.extend(decided(q, steps, hs[i], xs[i]))
    return answer


def wrong_count(n):
    return n < 0 or n > MOST


def wrong_how(how):
    return how < 0 or how > 1


def wrong_scale(k):
    return k < -MOST_SCALE or k > MOST_SCALE


def factors_of(how, numbers):
    """The complex halves of a list, or their conjugates where how is 1."""
    pairs = pairs_of(numbers)
    return [conjugate(pair) for pair in pairs] if how == 1 else pairs


def folded(parts):
    """The sum of parts, as many as a power of 2: the last half is added to the first till one is left."""
    left = parts
    while len(left) > 1:
        middle = len(left) // 2
        left = [plus(left[i], left[i + middle]) for i in range(middle)]
    return left[0]


def limited(part, limit):
    """A part held between -limit and limit; no number is 0."""
    if no_number(part):
        return 0
    return max(-limit, min(limit, part))


def kind_of(part):
    """The number of the first kind that fits, in the order in which rr_kinds tells them."""
    if no_number(part):
        return 0
    size = abs(part)
    if size == INFINITE:
        return 1
    if size == 0:
        return 2
    if size < NORMAL:
        return 3
    return 4 if part < 0 else 5


def part_of_word(word):
    """The half nearest to a word, which has 65536 more where it is below 0."""
    signed = word if word <= GREATEST_WORD else word - WORDS
    return rounded(signed << (2 * UNIT_BITS))


def word_of(part):
    """The whole number nearest to a part, held to 16 bits; no number is 0."""
    if no_number(part):
        return 0
    whole = nearest(part, UNIT_BITS)
    return max(-GREATEST_WORD - 1, min(GREATEST_WORD, whole)) % WORDS


def told(pairs):
    """The answer that isn't a refusal: 0, then complex halves, number by number."""
    return [0] + numbers_of(pairs)


def told_parts(parts):
    """The same, of parts one behind another."""
    return [0] + [bits_of(part) for part in parts]
