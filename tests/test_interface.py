"""The interface: calls in one list, nothing changed, nothing kept, nothing printed, and no gauge."""

import builtins
import contextlib
import inspect
import io
import sys
import unittest
from unittest import mock

from case_forms import SPIKES, TIME, ask, at, flat, gauge, row, time, zero
from gaugeclock.gauges import answers

CASE = flat([
    SPIKES,
    gauge(s=2, g=9, p=[(0, 0), (1, 5), (2, 0)], w=[(0, 1), (2, 4)], t=[(0, 1, 4), (2, 0, 0)]),
    SPIKES,
    time(1),
    zero(1),
    gauge(p=[(0, 0), (0, 0)]),
    time(-1),
    zero(TIME + 1),
])
TOLD = [1, -3, 1, 0, 3, 0, 1, 1, 4, 0, 2, 1, 2, 4, 0, 1, 1, 2, 3, -6, 0, 1, 4, 0, 0, 0, 1, 1, -1]


def refuse(*args, **kwargs):
    raise AssertionError("this isn't to be done")


class Watched(list):
    """A list that fails when it is changed, if only for a while."""

    append = extend = insert = pop = remove = clear = sort = reverse = refuse
    __setitem__ = __delitem__ = __iadd__ = __imul__ = refuse


class OneList(unittest.TestCase):
    def test_several_calls(self):
        self.assertEqual(answers(list(CASE)), TOLD)

    def test_each_alone(self):
        self.assertEqual(answers(gauge()), [1, 0])
        self.assertEqual(answers(SPIKES), [1, -3])
        self.assertEqual(answers(gauge(p=[(0, 2000000)])), [3, -6, 0, 0])

    def test_whole_numbers_in_a_list(self):
        told = answers(list(CASE))
        self.assertIs(type(told), list)
        self.assertEqual({type(number) for number in told}, {int})

    def test_calls_in_any_order(self):
        calls = [zero(3), gauge(), zero(3), gauge(t=[(0, 0, 8)]), time(2), zero(3), SPIKES]
        self.assertEqual(ask(*calls), [[-3], [0], [0, 0, 0, 1], [0], [0, 2, 0, 1], [0, 8, 0, 1], [0, 0]])

    def test_the_parameter(self):
        self.assertEqual(list(inspect.signature(answers).parameters), ["calls"])
        self.assertEqual(answers(calls=[1]), [1, -3])


class NoGauge(unittest.TestCase):
    def test_calls(self):
        calls = [SPIKES, time(0), zero(0), at(0), row(0, 1, 1)]
        self.assertEqual(ask(*calls), [[-3]] * len(calls))

    def test_before_all_else(self):
        calls = [time(TIME + 1), zero(-TIME - 1), at(TIME + 1), row(0, 0, 257)]
        self.assertEqual(ask(*calls), [[-3]] * len(calls))


class NothingElse(unittest.TestCase):
    def test_handed_in_stays(self):
        calls = Watched(CASE)
        self.assertEqual(answers(calls), TOLD)
        self.assertEqual(list(calls), CASE)

    def test_what_is_given_back_is_new(self):
        calls = list(CASE)
        first = answers(calls)
        first.append(99)
        self.assertEqual(answers(calls), TOLD)

    def test_the_same_again(self):
        calls = list(CASE)
        self.assertEqual([answers(calls) for turn in range(3)], [TOLD] * 3)

    def test_nothing_kept(self):
        answers(gauge(s=1, p=[(0, 0)]))
        self.assertEqual(answers(SPIKES + time(0) + zero(0)), [1, -3, 1, -3, 1, -3])

    def test_prints_reads_and_imports_nothing(self):
        printed = io.StringIO()
        with contextlib.redirect_stdout(printed), contextlib.redirect_stderr(printed), \
                mock.patch.object(builtins, "open", refuse), mock.patch.object(builtins, "input", refuse), \
                mock.patch.object(builtins, "__import__", refuse), mock.patch.object(sys, "stdin", None):
            told = answers(list(CASE))
        self.assertEqual((told, printed.getvalue()), (TOLD, ""))


class Long(unittest.TestCase):
    def deep(self, calls):
        """The answers with few calls within one another allowed."""
        limit = sys.getrecursionlimit()
        sys.setrecursionlimit(len(inspect.stack()) + 40)
        try:
            return answers(calls)
        finally:
            sys.setrecursionlimit(limit)

    def test_most_calls(self):
        self.assertEqual(self.deep(gauge() + 299 * time(5)), [1, 0] + 299 * [4, 0, 5, 0, 1])

    def test_most_numbers(self):
        points = [(k, k % 2) for k in range(256)]
        checks = [(2 * k, 3 * k) for k in range(32)]
        call = gauge(p=points, w=checks, t=[(c, 0, v) for c, v in checks]) + SPIKES + time(61) + zero(61)
        times = 26000 // len(call)
        answer = [1, 0, 256, 0, 254] + list(range(1, 255)) + [4, 0, 91, 1, 2, 4, 0, 91, 1, 2]
        self.assertEqual(self.deep(call * times), answer * times)


if __name__ == "__main__":
    unittest.main()
