"""The interface: calls in one list, nothing changed, nothing kept, nothing printed, and no gauge."""

import builtins
import contextlib
import inspect
import io
import sys
import unittest
from time import perf_counter
from unittest import mock

from by_the_words import at_by_the_words, kept_by_the_words, smooth_by_the_words
from case_forms import HEIGHT, SPIKES, TIME, ask, at, flat, gauge, raw_smooth, row, rows, smooth, split, time, zero
from gaugeclock.gauges import answers

# All seven kinds of call, with gauges taken and refused in between, and each call's answer.
STEPS = [
    (SPIKES, [-3]),
    (smooth([1, 5, 9], [1, 1]), [1, 3, 0, 1, 5, 0]),
    (gauge(s=2, g=9, p=[(0, 0), (1, 5), (2, 0)], w=[(0, 1), (2, 4)], t=[(0, 1, 4), (2, 0, 0)]), [0]),
    (SPIKES, [0, 1, 1]),
    (time(1), [0, 2, 1, 2]),
    (zero(1), [0, 1, 1, 2]),
    (at(2), [1, 2]),
    (row(0, 1, 5), [4, 5, 0, 1, 3, 1, 2, 1, 1, 1, 0]),
    (gauge(p=[(0, 0), (0, 0)]), [-6, 0, 1]),
    (time(-1), [0, 0, 0, 1]),
    (zero(TIME + 1), [-1]),
    (at(-TIME - 1), [-1]),
    (row(0, 0, 1), [-1]),
    (raw_smooth([(2, 0)], [1]), [-6]),
    (smooth([], []), [-1]),
    (gauge(g=2 ** 32), [-1]),
    (at(3), [1, 1]),
    (row(5, 3, 2), [0, 2, 0, 0]),
    (gauge(p=[(0, 7)]), [0]),
    (at(3), [0]),
    (at(0), [1, 7]),
    (smooth([None, -4], [3]), [1, 2, 0, 1, -4]),
    (SPIKES, [0, 0]),
    (time(1), [0, 1, 0, 1]),
    (zero(1), [0, 0, 0, 1]),
    (row(-1, 1, 3), [1, 3, 0, 1, 7, 0]),
]
CASE = flat(call for call, answer in STEPS)
TOLD = flat([len(answer)] + answer for call, answer in STEPS)


def refuse(*args, **kwargs):
    raise AssertionError("this isn't to be done")


class Watched(list):
    """A list that fails when it is changed, if only for a while."""

    append = extend = insert = pop = remove = clear = sort = reverse = refuse
    __setitem__ = __delitem__ = __iadd__ = __imul__ = refuse


class OneList(unittest.TestCase):
    def test_several_calls(self):
        self.assertEqual(answers(list(CASE)), TOLD)

    def test_each_alone(self):
        self.assertEqual(answers(gauge()), [1, 0])
        self.assertEqual(answers(SPIKES), [1, -3])
        self.assertEqual(answers(gauge(p=[(0, 2000000)])), [3, -6, 0, 0])
        self.assertEqual(answers(smooth([3, None], [1])), [5, 1, 2, 1, 3, 0])
        self.assertEqual(answers(raw_smooth([(0, 3)], [1])), [1, -6])

    def test_told_number_by_number(self):
        self.assertEqual(answers(gauge(p=[(0, 5)]) + at(0) + at(1) + row(0, 1, 2)),
                         [1, 0, 2, 1, 5, 1, 0, 5, 1, 2, 1, 5, 0])

    def test_whole_numbers_in_a_list(self):
        told = answers(list(CASE))
        self.assertIs(type(told), list)
        self.assertEqual({type(number) for number in told}, {int})

    def test_calls_in_any_order(self):
        calls = [zero(3), gauge(), zero(3), gauge(t=[(0, 0, 8)]), time(2), zero(3), SPIKES]
        self.assertEqual(ask(*calls), [[-3], [0], [0, 0, 0, 1], [0], [0, 2, 0, 1], [0, 8, 0, 1], [0, 0]])

    def test_the_parameter(self):
        self.assertEqual(list(inspect.signature(answers).parameters), ["calls"])
        self.assertEqual(answers(calls=[1]), [1, -3])


class NoGauge(unittest.TestCase):
    def test_calls(self):
        calls = [SPIKES, time(0), zero(0), at(0), row(0, 1, 1)]
        self.assertEqual(ask(*calls), [[-3]] * len(calls))

    def test_before_all_else(self):
        calls = [time(TIME + 1), zero(-TIME - 1), at(TIME + 1), row(0, 0, 257)]
        self.assertEqual(ask(*calls), [[-3]] * len(calls))

    def test_behind_smooth_and_refused_gauges(self):
        calls = [smooth([1], [1]), gauge(s=2 ** 32), gauge(p=[(0, 0), (0, 0)])]
        asked = [SPIKES, time(0), zero(0), at(0), row(0, 1, 1)]
        self.assertEqual(ask(*calls, *asked)[3:], [[-3]] * len(asked))

    def test_gone_with_an_empty_gauge(self):
        asked = [SPIKES, time(0), zero(0), at(0), row(0, 1, 1)]
        told = [[0], [0, 0], [0, 0, 0, 1], [0, 0, 0, 1], [0], [0, 1, 0]]
        self.assertEqual(ask(gauge(), *asked), told)


class NothingElse(unittest.TestCase):
    def test_handed_in_stays(self):
        calls = Watched(CASE)
        self.assertEqual(answers(calls), TOLD)
        self.assertEqual(list(calls), CASE)

    def test_what_is_given_back_is_new(self):
        calls = list(CASE)
        first = answers(calls)
        first.append(99)
        self.assertEqual(answers(calls), TOLD)

    def test_the_same_again(self):
        calls = list(CASE)
        self.assertEqual([answers(calls) for turn in range(3)], [TOLD] * 3)

    def test_nothing_kept(self):
        answers(gauge(s=1, p=[(0, 0)]))
        self.assertEqual(answers(SPIKES + time(0) + zero(0) + at(0) + row(0, 1, 1)), [1, -3] * 5)

    def test_prints_reads_and_imports_nothing(self):
        printed = io.StringIO()
        with contextlib.redirect_stdout(printed), contextlib.redirect_stderr(printed), \
                mock.patch.object(builtins, "open", refuse), mock.patch.object(builtins, "input", refuse), \
                mock.patch.object(builtins, "__import__", refuse), mock.patch.object(sys, "stdin", None):
            told = answers(list(CASE))
        self.assertEqual((told, printed.getvalue()), (TOLD, ""))


class Long(unittest.TestCase):
    # Many times what the longest lists take, so that a slow machine doesn't fail.
    GOOD_TIME = 20

    # As many points and checks as may be, and as wide: every clock and height comes out of long fractions.
    WIDEST = {
        "s": 2 * HEIGHT,
        "g": 2 ** 32 - 1,
        "p": [(k * 16000001 - 2 ** 31, (k * 777777) % (2 * HEIGHT) - HEIGHT) for k in range(256)],
        "w": [(k * 130000003 - 2 ** 31, k * 130000091 - 2 ** 31 - 5) for k in range(32)],
        "t": [(k * 129999987 - 2 ** 31, HEIGHT - k * 50021, k * 60013 - HEIGHT) for k in range(32)],
    }

    def deep(self, calls):
        """The answers with few calls within one another allowed, in good time."""
        self.assertLessEqual(len(calls), 26000)
        limit = sys.getrecursionlimit()
        began = perf_counter()
        sys.setrecursionlimit(len(inspect.stack()) + 40)
        try:
            told = answers(calls)
        finally:
            sys.setrecursionlimit(limit)
        self.assertLess(perf_counter() - began, self.GOOD_TIME)
        return told

    def test_most_calls(self):
        self.assertEqual(self.deep(gauge() + 299 * time(5)), [1, 0] + 299 * [4, 0, 5, 0, 1])

    def test_most_numbers(self):
        points = [(k, k % 2) for k in range(256)]
        checks = [(2 * k, 3 * k) for k in range(32)]
        call = gauge(p=points, w=checks, t=[(c, 0, v) for c, v in checks]) + SPIKES + time(61) + zero(61)
        times = 26000 // len(call)
        answer = [1, 0, 256, 0, 254] + list(range(1, 255)) + [4, 0, 91, 1, 2, 4, 0, 91, 1, 2]
        self.assertEqual(self.deep(call * times), answer * times)

    def test_most_heights(self):
        start, step = -2 ** 31, 16000007
        parts = self.WIDEST
        kept = kept_by_the_words(parts["s"], parts["p"], parts["w"], parts["t"])
        singles = [at_by_the_words(kept, parts["g"], start + k * step) for k in range(256)]
        answer = rows([None if single == [0] else single[1] for single in singles])
        self.assertGreater(answer[0], 200)
        told = split(self.deep(gauge(**parts) + 299 * row(start, step, 256)))
        self.assertEqual(told, [[0]] + 299 * [answer])

    def test_most_gauges(self):
        call = gauge(**self.WIDEST) + at(5)
        times = 26000 // len(call)
        told = split(self.deep(call * times))
        self.assertEqual(told, ask(gauge(**self.WIDEST), at(5)) * times)

    def test_most_smoothed(self):
        h = [(k * 7777777) % 8000001 - 4000000 for k in range(256)]
        w = [65536 - k for k in range(32)]
        call = smooth(h, w)
        calls = 47 * call + 145 * time(1) + SPIKES
        self.assertEqual(len(calls), 26000)
        told = split(self.deep(calls))
        self.assertEqual(told, 47 * [rows(smooth_by_the_words(h, w))] + 146 * [[-3]])

    def test_most_refused(self):
        call = gauge(p=[(0, 0)] * 500, w=[(0, 0)] * 50, t=[(0, 0, 0)] * 40) + raw_smooth([(2, 0)] * 500, [1] * 100)
        times = 26000 // len(call)
        self.assertEqual(self.deep(call * times), [1, -1, 1, -1] * times)


if __name__ == "__main__":
    unittest.main()
