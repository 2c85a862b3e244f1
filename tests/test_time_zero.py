"""The calls time and zero."""

import random
import unittest
from fractions import Fraction

from by_the_words import rising, time_by_the_words, zero_by_the_words
from case_forms import HEIGHT, TIME, ask, gauge, time, zero


def times(watches, clocks):
    return ask(gauge(w=watches), *[time(c) for c in clocks])[1:]


def zeros(staffs, clocks):
    return ask(gauge(t=staffs), *[zero(c) for c in clocks])[1:]


def fraction(answer):
    """The fraction of an answer, whose form is looked at too."""
    first, whole, over, bottom = answer
    value = Fraction(over, bottom)
    if first != 0 or not 0 <= value < 1 or (value.numerator, value.denominator) != (over, bottom):
        raise ValueError(f"not in form: {answer}")
    return whole + value


class Times(unittest.TestCase):
    def test_no_check(self):
        self.assertEqual(times([], [-7, 0, 7]), [[0, -7, 0, 1], [0, 0, 0, 1], [0, 7, 0, 1]])

    def test_one_check(self):
        told = times([(10, 13)], [-10, 9, 10, 11])
        self.assertEqual(told, [[0, -7, 0, 1], [0, 12, 0, 1], [0, 13, 0, 1], [0, 14, 0, 1]])

    def test_between_two(self):
        told = times([(0, 0), (6, 4)], [1, 2, 3, 4, 5])
        self.assertEqual(told, [[0, 0, 2, 3], [0, 1, 1, 3], [0, 2, 0, 1], [0, 2, 2, 3], [0, 3, 1, 3]])

    def test_just_at_a_check(self):
        told = times([(0, 5), (7, 6), (10, 100)], [0, 7, 10])
        self.assertEqual(told, [[0, 5, 0, 1], [0, 6, 0, 1], [0, 100, 0, 1]])

    def test_before_the_first_and_behind_the_last(self):
        told = times([(0, 5), (7, 6), (10, 100)], [-1, -1000, 11, 1000])
        self.assertEqual(told, [[0, 4, 0, 1], [0, -995, 0, 1], [0, 101, 0, 1], [0, 1090, 0, 1]])

    def test_the_neighbours_line_of_several(self):
        told = times([(0, 0), (2, 1), (4, 4), (6, 5)], [1, 3, 5])
        self.assertEqual(told, [[0, 0, 1, 2], [0, 2, 1, 2], [0, 4, 1, 2]])

    def test_below_0(self):
        told = times([(-6, -4), (0, 0)], [-5, -4, -3, -1])
        self.assertEqual(told, [[0, -4, 2, 3], [0, -3, 1, 3], [0, -2, 0, 1], [0, -1, 1, 3]])

    def test_lowest_terms(self):
        told = times([(0, 0), (12, 30)], [1, 2, 3])
        self.assertEqual(told, [[0, 2, 1, 2], [0, 5, 0, 1], [0, 7, 1, 2]])

    def test_bounds(self):
        told = times([], [-TIME - 1, -TIME, TIME, TIME + 1, 2 ** 38, -2 ** 38])
        self.assertEqual(told, [[-1], [0, -TIME, 0, 1], [0, TIME, 0, 1], [-1], [-1], [-1]])

    def test_told_beyond_the_bounds_of_times(self):
        self.assertEqual(times([(-TIME, TIME)], [TIME, -TIME]), [[0, 3 * TIME, 0, 1], [0, TIME, 0, 1]])

    def test_widest_lines(self):
        told = times([(-TIME, -TIME), (TIME - 1, TIME)], [0, TIME - 2])
        span = 2 * TIME - 1
        self.assertEqual(told[0], [0, 0, TIME, span])
        self.assertEqual(fraction(told[1]), TIME - Fraction(2 * TIME, span))

    def test_staff_checks_do_not_matter(self):
        told = ask(gauge(w=[(0, 1)], t=[(0, 0, 50), (10, 0, 90)], p=[(5, 5)]), time(5))
        self.assertEqual(told[1], [0, 6, 0, 1])


class Zeros(unittest.TestCase):
    def test_no_check(self):
        self.assertEqual(zeros([], [-7, 0, 7]), [[0, 0, 0, 1]] * 3)

    def test_one_check(self):
        self.assertEqual(zeros([(10, 3, 8)], [-10, 9, 10, 11]), [[0, 5, 0, 1]] * 4)

    def test_staff_less_pen(self):
        self.assertEqual(zeros([(0, 8, 3)], [0]), [[0, -5, 0, 1]])

    def test_between_two(self):
        told = zeros([(0, 10, 10), (6, 50, 54)], [1, 2, 3, 4, 5])
        self.assertEqual(told, [[0, 0, 2, 3], [0, 1, 1, 3], [0, 2, 0, 1], [0, 2, 2, 3], [0, 3, 1, 3]])

    def test_falling(self):
        told = zeros([(0, 0, 0), (3, 0, -1)], [1, 2])
        self.assertEqual(told, [[0, -1, 2, 3], [0, -1, 1, 3]])

    def test_just_at_a_check(self):
        told = zeros([(0, 1, 5), (7, 9, 3), (10, 0, 100)], [0, 7, 10])
        self.assertEqual(told, [[0, 4, 0, 1], [0, -6, 0, 1], [0, 100, 0, 1]])

    def test_before_the_first_and_behind_the_last(self):
        told = zeros([(0, 1, 5), (7, 9, 3), (10, 0, 100)], [-1, -1000, 11, 1000])
        self.assertEqual(told, [[0, 4, 0, 1], [0, 4, 0, 1], [0, 100, 0, 1], [0, 100, 0, 1]])

    def test_the_neighbours_line_of_several(self):
        told = zeros([(-4, 0, 0), (-2, 0, 1), (0, 0, 4), (2, 0, 5)], [-3, -1, 1])
        self.assertEqual(told, [[0, 0, 1, 2], [0, 2, 1, 2], [0, 4, 1, 2]])

    def test_lowest_terms_below_0(self):
        told = zeros([(-12, 0, 0), (0, 30, 0)], [-11, -10, -9, -8])
        self.assertEqual(told, [[0, -3, 1, 2], [0, -5, 0, 1], [0, -8, 1, 2], [0, -10, 0, 1]])

    def test_bounds(self):
        told = zeros([(0, 0, 7)], [-TIME - 1, -TIME, TIME, TIME + 1, 2 ** 38, -2 ** 38])
        self.assertEqual(told, [[-1], [0, 7, 0, 1], [0, 7, 0, 1], [-1], [-1], [-1]])

    def test_widest(self):
        told = zeros([(-TIME, HEIGHT, -HEIGHT), (TIME, -HEIGHT, HEIGHT)], [-TIME, 0, 1, TIME])
        step = Fraction(4 * HEIGHT, 2 * TIME)
        self.assertEqual([fraction(answer) for answer in told], [-2 * HEIGHT, 0, step, 2 * HEIGHT])

    def test_watch_checks_do_not_matter(self):
        told = ask(gauge(w=[(0, 100), (10, 500)], t=[(0, 0, 0), (10, 0, 5)], p=[(5, 5)]), zero(5))
        self.assertEqual(told[1], [0, 2, 1, 2])


class Promises(unittest.TestCase):
    """F1, and of F2 that times rise, on many gauges."""

    def gauges(self):
        chance = random.Random(42)
        for reach in (12, 40, 1000, TIME):
            for turn in range(40):
                count = chance.randrange(min(33, reach))
                clocks = rising(chance, count, -reach, reach)
                watches = list(zip(clocks, rising(chance, count, -reach, reach)))
                clocks = rising(chance, chance.randrange(min(33, reach)), -reach, reach)
                heights = range(-HEIGHT, HEIGHT + 1)
                staffs = [(c, chance.choice(heights), chance.choice(heights)) for c in clocks]
                asked = {chance.randrange(-reach, reach + 1) for k in range(30)}
                asked.update(c + near for c, t in watches for near in (-1, 0, 1))
                yield watches, staffs, sorted(c for c in asked if -TIME <= c <= TIME)

    def test_by_the_words(self):
        for watches, staffs, asked in self.gauges():
            self.assertEqual([fraction(a) for a in times(watches, asked)],
                             [time_by_the_words(watches, c) for c in asked])
            self.assertEqual([fraction(a) for a in zeros(staffs, asked)],
                             [zero_by_the_words(staffs, c) for c in asked])

    def test_checks_are_kept(self):
        for watches, staffs, asked in self.gauges():
            self.assertEqual(times(watches, [c for c, t in watches]), [[0, t, 0, 1] for c, t in watches])
            self.assertEqual(zeros(staffs, [c for c, pen, staff in staffs]),
                             [[0, staff - pen, 0, 1] for c, pen, staff in staffs])

    def test_times_rise(self):
        for watches, staffs, asked in self.gauges():
            told = [fraction(a) for a in times(watches, asked)]
            for before, behind in zip(told, told[1:]):
                self.assertLess(before, behind)


if __name__ == "__main__":
    unittest.main()
