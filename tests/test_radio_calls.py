"""The list of calls: how answers stand in it, what begins the stream anew, and that a refused call changes nothing."""

import contextlib
import copy
import inspect
import io
import unittest

from halfradio.radio import answers
from tests.line import calls_for, fed, rd_feed, rd_filter, rd_frame, rd_mark, rd_open, rd_send, rd_tell, rd_tone
from tests.line import told, unit_roots
from tests.reference import INF, NEG_INF, halves, half, row_of_middling
from tests.reference_radio import Frame, Radio
from tests.test_calls import ENDS, Guarded

ONE = half(1)
MARK = halves(1, 1, -1, 1, 2, 0)
FRAME = Frame(2, 1, 3, 2, ONE, unit_roots(2), [1, 3], halves(1, 0, 0, 1))
BITS = [1, 0, 0, 0, 1, 1, 0, 1]


def whole_radio():
    table = halves(1, 0, 0, -1, -1, 0, 0, 1)
    taps = halves(1, 0, 0.25, 0)
    return Radio(table, taps, 2, MARK, half(0.5), FRAME)


def plain_radio():
    return Radio(mark=MARK, like=half(4), frame=FRAME)


def sent_twice():
    sent = plain_radio().sent(BITS)[1:]
    return halves(0, 0, 0.25, 0) + sent + halves(0, 0) + sent


# Calls that are refused of a radio with all set, with their refusals.
WRONG_N = [-1, *ENDS]
REFUSED = (
    [(rd_tone([], n), -2) for n in WRONG_N + [1025]]
    + [(rd_filter(1, [], n), -2) for n in WRONG_N + [0, 65]]
    + [(rd_filter(down, halves(1, 1)), -2) for down in (-1, 0, 17, *ENDS)]
    + [(rd_filter(0, [], 0), -2)]
    + [(rd_mark(ONE, [], n), -2) for n in WRONG_N + [0, 65]]
    + [(rd_mark(like, halves(1, 1)), -2) for like in (0x8001, half(-1), NEG_INF, 0x7C01, 0x7FFF, 0xFC01, 0xFFFF)]
    + [(rd_mark(half(-1), [], 65), -2)]
    + [(rd_feed([], n), -2) for n in WRONG_N + [4097]]
    + [(rd_frame(1, 0, 2, 2, ONE, [], [0], halves(1, 0)), -2)]
    + [(rd_frame(2, 5, 2, 2, ONE, unit_roots(2), [0], halves(1, 0)), -5)]
    + [(rd_send(most, BITS), -2) for most in (-1, 32833, *ENDS)]
    + [(rd_send(32832, BITS[1:]), -5), (rd_send(17, BITS), -1)]
)


class Form(unittest.TestCase):
    def test_parameters(self):
        self.assertEqual(list(inspect.signature(answers).parameters), ["calls"])

    def test_no_calls(self):
        self.assertEqual(answers([]), [])

    def test_rd_open_alone(self):
        self.assertEqual(answers([20]), [1, 0])
        self.assertEqual(answers([20, 20, 20]), [1, 0, 1, 0, 1, 0])

    def test_each_answer_comes_with_its_length(self):
        calls = [20, 26, 25, 1, 2, ONE, 0, 26, 25, 5000, 0, 21, 0, 0, 26]
        self.assertEqual(answers(calls), [
            1, 0, 6, 0, 0, 0, 0, 0, 0, 1, 0, 6, 0, 1, 1, 0, 0, 0, 1, -2, 1, 0, 6, 0, 0, 0, 0, 0, 0,
        ])

    def test_every_call_written_out(self):
        calls = [20, 21, 1, 2, ONE, 0, 22, 1, 1, 2, ONE, 0, 23, 1, 0, 2, ONE, 0]
        calls += [24, 2, 0, 1, 2, 1, ONE, 4, ONE, 0, 0, half(-1), 1, 0, 2, ONE, 0]
        calls += [27, 9, 1, 1, 25, 2, 4, ONE, 0, ONE, 0, 26]
        quarter = half(0.25)
        sent = [ONE, 0] + [quarter, 0] * 8
        self.assertEqual(answers(calls), [1, 0] * 5 + [19, 9] + sent + [1, 0, 6, 0, 2, 2, 1, 0, 0])

    def test_whole_numbers_in_a_list(self):
        answer = answers(sum(calls_for(whole_radio()), []) + rd_feed(sent_twice()) + rd_tell() + rd_send(99, BITS))
        self.assertIs(type(answer), list)
        self.assertEqual({type(number) for number in answer}, {int})

    def test_what_is_handed_in_stays(self):
        calls = sum(calls_for(whole_radio()), []) + rd_feed(sent_twice()) + rd_tell() + rd_send(99, BITS)
        for call, _ in REFUSED:
            calls += call
        handed = Guarded(calls)
        answers(handed)
        self.assertTrue(handed == calls)

    def test_nothing_is_kept_from_one_time_to_the_next(self):
        calls = sum(calls_for(whole_radio()), []) + rd_feed(sent_twice()) + rd_tell() + rd_send(99, BITS)
        first = answers(calls)
        kept = list(first)
        first[:] = []
        self.assertEqual(told(rd_open(), rd_send(99, BITS), rd_tell())[1:], [[-3], [0, 0, 0, 0, 0, 0]])
        self.assertEqual(told(rd_open(), rd_feed(sent_twice()), rd_tell())[1:], [[0], [0, 39, 39, 0, 0, 0]])
        self.assertEqual(answers(calls), kept)
        self.assertEqual(answers(calls), kept)

    def test_nothing_is_printed(self):
        out, err = io.StringIO(), io.StringIO()
        with contextlib.redirect_stdout(out), contextlib.redirect_stderr(err):
            told(*calls_for(whole_radio()), rd_feed(sent_twice()), rd_tell(), rd_send(99, BITS))
        self.assertEqual((out.getvalue(), err.getvalue()), ("", ""))

    def test_three_hundred_calls(self):
        x = sent_twice()
        samples = [rd_feed(x[i:i + 2]) for i in range(0, len(x), 2)]
        calls = calls_for(plain_radio()) + samples
        calls += [rd_tell()] * (300 - len(calls))
        answered = told(*calls)
        numbers, _ = plain_radio().received(x)
        self.assertEqual(answered[-1], [0] + numbers)
        self.assertEqual(numbers[2:], [2, 6, 16])


class Anew(unittest.TestCase):
    """Which calls begin the stream anew, and what stays set."""

    def setUp(self):
        self.radio = whole_radio()
        self.x = row_of_middling(60, 3)
        self.numbers, self.bits = self.radio.received(self.x)
        # The stream is such that each of the five numbers shows.
        self.assertTrue(all(number > 0 for number in self.numbers))

    def goes_on(self, call, **changed):
        """Behind a call all counts are 0, and the stream is told as with what changed and all else as it was."""
        radio = copy.deepcopy(self.radio)
        for name, value in changed.items():
            setattr(radio, name, value)
        set_calls = calls_for(self.radio)
        for fed_before in ([], self.x[:14], self.x):
            calls = [rd_feed(fed_before), call, rd_tell(), rd_feed(self.x), rd_tell(), rd_send(99, BITS)]
            answered = told(*set_calls, *calls)
            numbers, bits = radio.received(self.x)
            sent = radio.sent(BITS) if radio.mark and radio.frame else [-3]
            behind = [[0], [0, 0, 0, 0, 0, 0], [len(bits)] + bits, [0] + numbers, sent]
            self.assertEqual(answered[len(set_calls) + 1:], behind)

    def test_rd_open(self):
        new = Radio()
        self.goes_on(rd_open(), table=[], taps=new.taps, down=1, mark=[], frame=None)

    def test_rd_tone(self):
        self.goes_on(rd_tone(halves(0, 1)), table=halves(0, 1))
        self.goes_on(rd_tone([]), table=[])
        self.goes_on(rd_tone(self.radio.table))

    def test_rd_filter(self):
        self.goes_on(rd_filter(1, halves(1, 0)), taps=halves(1, 0), down=1)
        self.goes_on(rd_filter(3, halves(1, 0, 1, 1, 0, 2)), taps=halves(1, 0, 1, 1, 0, 2), down=3)
        self.goes_on(rd_filter(2, self.radio.taps))

    def test_rd_mark(self):
        self.goes_on(rd_mark(ONE, halves(1, 0)), mark=halves(1, 0), like=ONE)
        self.goes_on(rd_mark(half(0.5), MARK))

    def test_rd_frame(self):
        frame = Frame(2, 0, 2, 4, half(0.5), halves(1, 1, 2, 0), [0, 2], halves(1, 0, 2, 1))
        set_calls = calls_for(self.radio)
        answered = told(*set_calls, rd_feed(self.x), rd_frame(*frame.values()), rd_tell(), rd_feed(self.x), rd_tell())
        self.radio.frame = frame
        numbers, bits = self.radio.received(self.x)
        self.assertEqual(answered[-3:], [[0, 0, 0, 0, 0, 0], [len(bits)] + bits, [0] + numbers])
        self.radio.frame = FRAME
        self.goes_on(rd_frame(*FRAME.values()))

    def test_rd_open_sets_each_back(self):
        x = sent_twice()
        plain = plain_radio()
        numbers, bits = plain.received(x)
        self.assertEqual(bits, BITS * 2)
        for before in (rd_tone(halves(0, 1, 2, 0)), rd_filter(2, halves(1, 0)), rd_filter(1, halves(0, 1, 3, 0))):
            set_again = [rd_mark(plain.like, plain.mark), rd_frame(*plain.frame.values())]
            answered = told(rd_open(), before, rd_open(), *set_again, rd_feed(x), rd_tell())
            self.assertEqual(answered[-2:], [[len(bits)] + bits, [0] + numbers])
        for set_again in (rd_frame(*FRAME.values()), rd_mark(ONE, MARK)):
            answered = told(*calls_for(plain), rd_open(), set_again, rd_feed(x), rd_tell(), rd_send(99, BITS))
            self.assertEqual(answered[-3:], [[0], [0, 39, 39, 0, 0, 0], [-3]])


class Unchanged(unittest.TestCase):
    def test_a_refused_call_changes_nothing(self):
        x = sent_twice()
        for radio in (plain_radio(), whole_radio()):
            set_calls = calls_for(radio)
            numbers, bits = radio.received(x)
            for call, refusal in REFUSED:
                for cut in (0, 10, 36, len(x)):
                    calls = [rd_feed(x[:cut]), call, rd_feed(x[cut:]), rd_tell(), rd_send(99, BITS)]
                    before, answer, behind, tells, sent = told(*set_calls, *calls)[-5:]
                    self.assertEqual(answer, [refusal], call)
                    self.assertEqual(before[1:] + behind[1:], bits, call)
                    self.assertEqual(tells, [0] + numbers, call)
                    self.assertEqual(sent, radio.sent(BITS), call)

    def test_a_refused_call_sets_nothing(self):
        x = sent_twice()
        for call, refusal in REFUSED:
            if call[0] == 27:
                continue
            answered = told(rd_open(), call, rd_feed(x), rd_tell(), rd_send(99, BITS))
            self.assertEqual(answered[1:], [[refusal], [0], [0, 39, 39, 0, 0, 0], [-3]])

    def test_all_refused_calls_together(self):
        radio = plain_radio()
        x = sent_twice()
        calls = [call for call, _ in REFUSED]
        set_calls = calls_for(radio)
        answered = told(*set_calls, rd_feed(x[:30]), *calls, rd_feed(x[30:]), rd_tell())
        numbers, bits = radio.received(x)
        refusals = answered[len(set_calls) + 1:-2]
        self.assertEqual(refusals, [[refusal] for _, refusal in REFUSED])
        self.assertEqual(answered[len(set_calls)][1:] + answered[-2][1:], bits)
        self.assertEqual(answered[-1], [0] + numbers)

    def test_rd_tell_and_rd_send_change_nothing(self):
        radio = plain_radio()
        x = sent_twice()
        set_calls = calls_for(radio)
        numbers, bits = radio.received(x)
        for cut in range(0, len(x), 6):
            calls = [rd_feed(x[:cut]), rd_tell(), rd_tell(), rd_send(99, BITS), rd_tell(), rd_feed(x[cut:]), rd_tell()]
            answered = told(*set_calls, *calls)[len(set_calls):]
            self.assertEqual(answered[1], [0] + radio.received(x[:cut])[0])
            self.assertEqual(answered[1], answered[2])
            self.assertEqual(answered[1], answered[4])
            self.assertEqual(answered[0][1:] + answered[5][1:], bits)
            self.assertEqual(answered[6], [0] + numbers)


class Told(unittest.TestCase):
    def test_before_anything(self):
        self.assertEqual(told(rd_open(), rd_tell())[1], [0, 0, 0, 0, 0, 0])

    def test_after_each_sample(self):
        for radio in (plain_radio(), whole_radio()):
            x = sent_twice()
            set_calls = calls_for(radio)
            calls = []
            for i in range(0, len(x), 2):
                calls += [rd_feed(x[i:i + 2]), rd_tell()]
            answered = told(*set_calls, *calls)[len(set_calls):]
            bits = []
            for i in range(len(x) // 2):
                bits += answered[2 * i][1:]
                numbers, expected = radio.received(x[:2 * i + 2])
                self.assertEqual(bits, expected, i)
                self.assertEqual(answered[2 * i + 1], [0] + numbers, i)

    def test_samples_are_counted_without_a_mark_and_a_frame(self):
        x = row_of_middling(50, 1)
        self.assertEqual(fed(Radio(), [x]), ([0, 50, 50, 0, 0, 0], []))
        self.assertEqual(fed(Radio(down=3), [x]), ([0, 50, 17, 0, 0, 0], []))
        self.assertEqual(fed(Radio(down=16), [x[:64], x[64:]]), ([0, 50, 4, 0, 0, 0], []))
        self.assertEqual(fed(Radio(mark=MARK), [x]), ([0, 50, 50, 0, 0, 0], []))
        self.assertEqual(fed(Radio(frame=FRAME), [x]), ([0, 50, 50, 0, 0, 0], []))

    def test_what_came_before_the_mark_was_set_is_gone(self):
        x = sent_twice()
        for calls in (
            [rd_mark(half(4), MARK), rd_feed(x), rd_frame(*FRAME.values())],
            [rd_frame(*FRAME.values()), rd_feed(x), rd_mark(half(4), MARK)],
        ):
            answered = told(rd_open(), *calls, rd_feed([]), rd_tell(), rd_feed(x), rd_tell())
            self.assertEqual(answered[2], [0])
            self.assertEqual(answered[4:6], [[0], [0, 0, 0, 0, 0, 0]])
            self.assertEqual(answered[6], [16] + BITS * 2)


class Refused(unittest.TestCase):
    def test_each_is_its_number_alone(self):
        for call, refusal in REFUSED:
            answered = told(*calls_for(plain_radio()), call)
            self.assertEqual(answered[-1], [refusal], call)

    def test_the_ends_of_the_ranges_are_taken(self):
        for n in (0, 1, 1024):
            self.assertEqual(told(rd_open(), rd_tone(row_of_middling(n, 1)))[1], [0])
        for n in (1, 64):
            for down in (1, 16):
                self.assertEqual(told(rd_open(), rd_filter(down, row_of_middling(n, 1)))[1], [0])
            for like in (0, 0x8000, 0x0001, ONE, 0x7BFF, INF):
                self.assertEqual(told(rd_open(), rd_mark(like, row_of_middling(n, 1)))[1], [0])
        for n in (0, 1, 4096):
            self.assertEqual(told(rd_open(), rd_feed(row_of_middling(n, 1)))[1], [0])


if __name__ == "__main__":
    unittest.main()
