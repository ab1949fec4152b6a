"""What holds of each call on rows: its refusals, and that it leaves no trace."""

import contextlib
import inspect
import io
import unittest

from halfradio import rows
from tests.reference import NEG_ZERO, row_of_any

OUTSIDE_N = (-1, 4097, -2147483648, 2147483647)
OUTSIDE_HOW = (-1, 2, -2147483648, 2147483647)

PARAMETERS = {
    "rr_times": ["n", "how", "x", "y"],
    "rr_more": ["n", "how", "x", "y", "s"],
    "rr_dot": ["n", "how", "x", "y"],
}


class Checks:
    """The checks themselves; the classes below name the call."""

    name = ""

    def setUp(self):
        self.call = getattr(rows, self.name)
        self.count = len(PARAMETERS[self.name]) - 2

    def handed(self, n):
        """The lists the call is handed, n complex halves each: what is no number and -0 among them."""
        lists = [row_of_any(n, 50 + i) for i in range(self.count)]
        for numbers in lists:
            numbers[:4] = [NEG_ZERO, 0x7C01, 0xFFFF, 0xFC00][:2 * n]
        return lists

    def test_parameters(self):
        self.assertEqual(list(inspect.signature(self.call).parameters), PARAMETERS[self.name])

    def test_n_is_refused(self):
        for n in OUTSIDE_N:
            for how in (0, 1):
                self.assertEqual(self.call(n, how, *self.handed(0)), [-2], (n, how))

    def test_how_is_refused(self):
        for how in OUTSIDE_HOW:
            for n in (0, 1, 3, 4096):
                self.assertEqual(self.call(n, how, *self.handed(n)), [-2], (n, how))

    def test_both_are_refused(self):
        for n in OUTSIDE_N:
            for how in OUTSIDE_HOW:
                self.assertEqual(self.call(n, how, *self.handed(0)), [-2], (n, how))

    def test_the_ends_are_taken(self):
        for n in (0, 1, 4096):
            for how in (0, 1):
                answer = self.call(n, how, *self.handed(n))
                self.assertEqual(answer[0], 0)
                self.assertEqual(len(answer), 3 if self.name == "rr_dot" else 1 + 2 * n)

    def test_the_answer_is_a_list_of_whole_numbers(self):
        for n, how in ((0, 0), (5, 1), (5, 2), (300, 0)):
            answer = self.call(n, how, *self.handed(n))
            self.assertIs(type(answer), list)
            self.assertEqual({type(number) for number in answer}, {int})
            self.assertTrue(all(0 <= number <= 65535 for number in answer[1:]))

    def test_what_is_handed_in_stays(self):
        for n, how in ((0, 0), (1, 1), (40, 0), (40, 1), (40, 2), (4096, 1)):
            handed = [Guarded(numbers) for numbers in self.handed(n)]
            self.call(n, how, *handed)
            self.assertTrue(handed == self.handed(n), (n, how))

    def test_one_list_in_two_places(self):
        row = row_of_any(20, 60)
        apart = self.call(20, 1, *[list(row) for _ in range(self.count)])
        self.assertEqual(self.call(20, 1, *[row] * self.count), apart)
        self.assertEqual(row, row_of_any(20, 60))

    def test_nothing_is_kept(self):
        handed = self.handed(40)
        first = self.call(40, 1, *handed)
        kept = list(first)
        self.call(40, 0, *[row_of_any(40, 70)] * self.count)
        self.call(-1, 0, *self.handed(0))
        first[:] = [7]
        self.assertEqual(self.call(40, 1, *handed), kept)
        self.assertEqual(self.call(40, 1, *handed), kept)

    def test_nothing_is_printed(self):
        out, err = io.StringIO(), io.StringIO()
        with contextlib.redirect_stdout(out), contextlib.redirect_stderr(err):
            self.call(40, 1, *self.handed(40))
            self.call(40, 2, *self.handed(40))
        self.assertEqual((out.getvalue(), err.getvalue()), ("", ""))


class Times(Checks, unittest.TestCase):
    name = "rr_times"


class More(Checks, unittest.TestCase):
    name = "rr_more"


class Dot(Checks, unittest.TestCase):
    name = "rr_dot"


class Guarded(list):
    """A list that fails when it is changed, were it for a while only."""

    def fail(self, *values, **named):
        raise AssertionError("a list that was handed in is changed")

    __setitem__ = __delitem__ = __iadd__ = __imul__ = fail
    append = extend = insert = pop = remove = reverse = sort = clear = fail


if __name__ == "__main__":
    unittest.main()
