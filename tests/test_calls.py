"""What holds of each call on rows: its arguments, its refusals, and that it leaves no trace."""

import contextlib
import functools
import inspect
import io
import itertools
import unittest

from halfradio import rows
from tests.reference import NEG_ZERO, row_of_any

ENDS = (-2147483648, 2147483647)

# Of each call: its numbers, its lists, and how many numbers stand behind the 0 that it answers.
CALLS = {
    "rr_times": (("n", "how"), ("x", "y"), lambda n, how: 2 * n),
    "rr_more": (("n", "how"), ("x", "y", "s"), lambda n, how: 2 * n),
    "rr_dot": (("n", "how"), ("x", "y"), lambda n, how: 2),
    "rr_power": (("n",), ("x",), lambda n: 1),
    "rr_transform": (("doublings", "how"), ("x", "roots"), lambda k, how: 2 * 2**k),
    "rr_scale": (("n", "k"), ("x",), lambda n, k: 2 * n),
    "rr_limit": (("n", "bound"), ("x",), lambda n, bound: 2 * n),
    "rr_kinds": (("n",), ("x",), lambda n: 6),
    "rr_top": (("n",), ("x",), lambda n: 0),
    "rr_words": (("n", "k"), ("w",), lambda n, k: 2 * n),
    "rr_to_words": (("n", "k"), ("x",), lambda n, k: 2 * n),
    "rr_points": (("n", "q", "unit"), ("bits",), lambda n, q, unit: 2 * n),
    "rr_decide": (("n", "q", "unit"), ("h", "x"), lambda n, q, unit: q * n),
}

# k of rr_transform has a range of its own, and so another name here.
TAKEN = {
    "n": (0, 1, 3, 4096),
    "how": (0, 1),
    "doublings": (0, 1, 2, 3, 10),
    "k": (-64, -1, 0, 1, 64),
    "bound": (0, NEG_ZERO, 0x0001, 0x3C00, 0x7BFF, 0x7C00),
    "q": (1, 2, 4, 6),
    "unit": (0x0400, 0x3C00, 0x6C00),
}
OUTSIDE = {
    "n": (-1, 4097) + ENDS,
    "how": (-1, 2) + ENDS,
    "doublings": (-1, 11) + ENDS,
    "k": (-65, 65) + ENDS,
    "bound": (0x8001, 0xBC00, 0xFBFF, 0xFC00, 0x7C01, 0x7E00, 0x7FFF, 0xFC01, 0xFFFF),
    "q": (-1, 0, 3, 5, 7, 8) + ENDS,
    "unit": (0, NEG_ZERO, 0x03FF, 0x6C01, 0x8400, 0xBC00, 0x7C00, 0xFC00, 0x7C01, 0xFFFF),
}
USUAL = {"n": 40, "how": 1, "doublings": 5, "k": 3, "bound": 0x3C00, "q": 4, "unit": 0x3C01}


def choices(names):
    """Every way to give each of some numbers a value that is taken."""
    return [dict(zip(names, values)) for values in itertools.product(*[TAKEN[name] for name in names])]


def wrong_choices(names):
    """Ways to give some numbers values of which one at least is outside its range."""
    found = []
    for count in range(1, len(names) + 1):
        for wrong in itertools.combinations(names, count):
            tables = [OUTSIDE[name] if name in wrong else TAKEN[name] for name in names]
            found += [dict(zip(names, values)) for values in itertools.product(*tables)]
    return found


def length(name, numbers):
    """How many numbers a list has, of the numbers of its call; none where one that tells it is refused."""
    if "doublings" in numbers:
        k = numbers["doublings"]
        if not 0 <= k <= 10 or (name == "roots" and k == 0):
            return 0
        return 2**k if name == "roots" else 2 * 2**k
    n, q = numbers["n"], numbers.get("q")
    if not 0 <= n <= 4096 or (name == "bits" and q not in (1, 2, 4, 6)):
        return 0
    return q * n if name == "bits" else 2 * n


@functools.lru_cache
def numbers_for(name, seed):
    """As many numbers as a list may have, what is no number and -0 among them."""
    if name == "bits":
        return [bits & 1 for bits in row_of_any(12288, seed)]
    return [NEG_ZERO, 0x7C01, 0xFFFF, 0xFC00] + row_of_any(4094, seed)


class Checks:
    """The checks themselves; the classes below name the call."""

    name = ""

    def setUp(self):
        self.call = getattr(rows, self.name)
        self.numbers, self.lists, self.answered = CALLS[self.name]
        self.usual = {name: USUAL[name] for name in self.numbers}
        self.refusal = [-100] if self.name == "rr_top" else [-2]

    def handed(self, numbers, seed=50):
        return [numbers_for(name, seed + place)[:length(name, numbers)] for place, name in enumerate(self.lists)]

    def answer(self, numbers, lists=None):
        return self.call(*numbers.values(), *(self.handed(numbers) if lists is None else lists))

    def test_parameters(self):
        names = ["k" if name == "doublings" else name for name in self.numbers]
        self.assertEqual(list(inspect.signature(self.call).parameters), names + list(self.lists))

    def test_a_number_outside_its_range_is_refused(self):
        for numbers in wrong_choices(self.numbers):
            self.assertEqual(self.answer(numbers), self.refusal, numbers)

    def test_what_is_in_its_range_is_taken(self):
        for numbers in choices(self.numbers):
            answer = self.answer(numbers)
            self.assertTrue(answer[0] == 0 or self.name == "rr_top" and -25 <= answer[0] <= 15, numbers)
            self.assertEqual(len(answer), 1 + self.answered(*numbers.values()), numbers)

    def test_the_answer_is_a_list_of_whole_numbers(self):
        for numbers in choices(self.numbers) + wrong_choices(self.numbers)[:3]:
            answer = self.answer(numbers)
            self.assertIs(type(answer), list)
            self.assertEqual({type(number) for number in answer}, {int})
            self.assertTrue(all(0 <= number <= 65535 for number in answer[1:]))

    def test_what_is_handed_in_stays(self):
        for numbers in choices(self.numbers) + wrong_choices(self.numbers):
            handed = [Guarded(row) for row in self.handed(numbers)]
            self.answer(numbers, handed)
            self.assertTrue(handed == self.handed(numbers), numbers)

    def test_one_list_in_two_places(self):
        # Only lists of the same length can be one.
        if len({length(name, self.usual) for name in self.lists}) > 1:
            return
        row = self.handed(self.usual)[0]
        apart = self.answer(self.usual, [list(row) for _ in self.lists])
        self.assertEqual(self.answer(self.usual, [row for _ in self.lists]), apart)
        self.assertEqual(row, self.handed(self.usual)[0])

    def test_nothing_is_kept(self):
        handed = self.handed(self.usual)
        first = self.answer(self.usual, handed)
        kept = list(first)
        for numbers in choices(self.numbers) + wrong_choices(self.numbers)[:9]:
            self.answer(numbers, self.handed(numbers, 70))
        first[:] = [7]
        self.assertEqual(self.answer(self.usual, handed), kept)
        self.assertEqual(self.answer(self.usual, handed), kept)

    def test_nothing_is_printed(self):
        out, err = io.StringIO(), io.StringIO()
        with contextlib.redirect_stdout(out), contextlib.redirect_stderr(err):
            self.answer(self.usual)
            self.answer(wrong_choices(self.numbers)[0])
        self.assertEqual((out.getvalue(), err.getvalue()), ("", ""))


class Times(Checks, unittest.TestCase):
    name = "rr_times"


class More(Checks, unittest.TestCase):
    name = "rr_more"


class Dot(Checks, unittest.TestCase):
    name = "rr_dot"


class Power(Checks, unittest.TestCase):
    name = "rr_power"


class Transform(Checks, unittest.TestCase):
    name = "rr_transform"


class Scale(Checks, unittest.TestCase):
    name = "rr_scale"


class Limit(Checks, unittest.TestCase):
    name = "rr_limit"


class Kinds(Checks, unittest.TestCase):
    name = "rr_kinds"


class Top(Checks, unittest.TestCase):
    name = "rr_top"


class Words(Checks, unittest.TestCase):
    name = "rr_words"


class ToWords(Checks, unittest.TestCase):
    name = "rr_to_words"


class Points(Checks, unittest.TestCase):
    name = "rr_points"


class Decide(Checks, unittest.TestCase):
    name = "rr_decide"


class Guarded(list):
    """A list that fails when it is changed, were it for a while only."""

    def fail(self, *values, **named):
        raise AssertionError("a list that was handed in is changed")

    __setitem__ = __delitem__ = __iadd__ = __imul__ = fail
    append = extend = insert = pop = remove = reverse = sort = clear = fail


if __name__ == "__main__":
    unittest.main()
