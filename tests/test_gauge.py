"""The call gauge: what it takes and what it refuses, and in which order."""

import unittest

from case_forms import HEIGHT, SPIKES, TIME, ask, gauge, time, zero

SETTING = 2 ** 32


def points(count):
    return [(k, 0) for k in range(count)]


def watches(count):
    return [(k, k) for k in range(count)]


def staffs(count):
    return [(k, 0, 0) for k in range(count)]


class GaugeCase(unittest.TestCase):
    def answer(self, expected, **parts):
        self.assertEqual(ask(gauge(**parts)), [expected], parts)


class Taken(GaugeCase):
    def test_ordinary(self):
        self.answer([0], s=5, g=600, p=[(0, 10), (60, 12)], w=[(0, 3), (60, 62)], t=[(0, 10, 11)])

    def test_nothing_in_it(self):
        self.answer([0])

    def test_clocks_need_not_be_the_same_in_the_lists(self):
        self.answer([0], p=[(100, 0)], w=[(-5, 900)], t=[(7, 1, 2)])

    def test_heights_and_zeros_may_fall(self):
        self.answer([0], p=[(0, 9), (1, 3), (2, 3)], t=[(0, 9, 9), (1, 5, 3), (2, 5, 3)])


class TooMuch(GaugeCase):
    def test_points(self):
        self.answer([0], p=points(256))
        self.answer([-1], p=points(257))
        self.answer([-1], p=points(500))

    def test_watch_checks(self):
        self.answer([0], w=watches(32))
        self.answer([-1], w=watches(33))
        self.answer([-1], w=watches(50))

    def test_staff_checks(self):
        self.answer([0], t=staffs(32))
        self.answer([-1], t=staffs(33))
        self.answer([-1], t=staffs(40))

    def test_all_at_their_most(self):
        self.answer([0], s=SETTING - 1, g=SETTING - 1, p=points(256), w=watches(32), t=staffs(32))

    def test_settings(self):
        self.answer([0], s=SETTING - 1)
        self.answer([-1], s=SETTING)
        self.answer([-1], s=2 ** 38)
        self.answer([0], g=SETTING - 1)
        self.answer([-1], g=SETTING)
        self.answer([-1], g=2 ** 38)


class OutOfForm(GaugeCase):
    def bounds(self, name, groups, which):
        """Each number of the middle group, at its bounds and one beyond."""
        for column, bound in groups:
            for sign in (-1, 1):
                group = [0] * len(groups)
                group[column] = sign * bound
                self.answer([0], **{name: [tuple(group)]})
                group[column] = sign * (bound + 1)
                self.answer([-6, which, 0], **{name: [tuple(group)]})

    def test_bounds_of_points(self):
        self.bounds("p", [(0, TIME), (1, HEIGHT)], 0)

    def test_bounds_of_watch_checks(self):
        self.bounds("w", [(0, TIME), (1, TIME)], 1)

    def test_bounds_of_staff_checks(self):
        self.bounds("t", [(0, TIME), (1, HEIGHT), (2, HEIGHT)], 2)

    def test_bounds_behind_the_first(self):
        self.answer([-6, 0, 2], p=[(0, 0), (1, 0), (2, HEIGHT + 1)])
        self.answer([-6, 0, 1], p=[(0, 0), (TIME + 1, 0)])
        self.answer([-6, 1, 1], w=[(0, 0), (1, TIME + 1)])
        self.answer([-6, 2, 2], t=[(0, 0, 0), (1, 0, 0), (2, 0, -HEIGHT - 1)])

    def test_points_that_do_not_rise(self):
        self.answer([-6, 0, 1], p=[(5, 0), (5, 1), (6, 0)])
        self.answer([-6, 0, 2], p=[(5, 0), (6, 1), (4, 0)])

    def test_watch_clocks_that_do_not_rise(self):
        self.answer([-6, 1, 1], w=[(5, 0), (5, 1)])
        self.answer([-6, 1, 2], w=[(5, 0), (6, 1), (4, 2)])

    def test_watch_times_that_do_not_rise(self):
        self.answer([-6, 1, 1], w=[(5, 0), (6, 0)])
        self.answer([-6, 1, 2], w=[(5, 0), (6, 1), (7, -1)])

    def test_staff_clocks_that_do_not_rise(self):
        self.answer([-6, 2, 1], t=[(5, 0, 0), (5, 1, 1)])
        self.answer([-6, 2, 2], t=[(5, 0, 0), (6, 0, 0), (4, 0, 0)])

    def test_last_of_the_most(self):
        self.answer([-6, 0, 255], p=points(255) + [(254, 0)])
        self.answer([-6, 1, 31], w=watches(31) + [(31, 30)])
        self.answer([-6, 2, 31], t=staffs(31) + [(31, 0, HEIGHT + 1)])

    def test_rises_above_the_one_before_alone(self):
        # The one before is what counts, also where it's the fault itself: the first fault is told.
        self.answer([-6, 0, 1], p=[(5, 0), (3, 0), (4, 0)])


class OrderOfFaults(GaugeCase):
    BAD_POINTS = [(0, 0), (1, HEIGHT + 1), (1, 0)]
    BAD_WATCHES = [(TIME + 1, 0)]
    BAD_STAFFS = [(0, 0, 0), (1, 0, 0), (0, 0, 0)]

    def test_points_then_watches_then_staffs(self):
        self.answer([-6, 0, 1], p=self.BAD_POINTS, w=self.BAD_WATCHES, t=self.BAD_STAFFS)
        self.answer([-6, 1, 0], p=points(3), w=self.BAD_WATCHES, t=self.BAD_STAFFS)
        self.answer([-6, 2, 2], p=points(3), w=watches(2), t=self.BAD_STAFFS)
        self.answer([-6, 0, 1], p=self.BAD_POINTS, w=watches(2), t=self.BAD_STAFFS)

    def test_the_first_of_a_list_whatever_its_fault(self):
        self.answer([-6, 0, 1], p=[(0, 0), (0, 0), (1, HEIGHT + 1)])
        self.answer([-6, 0, 1], p=[(0, 0), (1, HEIGHT + 1), (0, 0)])
        self.answer([-6, 1, 1], w=[(0, 0), (1, 0), (1, 1)])

    def test_too_much_goes_before_form(self):
        self.answer([-1], s=SETTING, p=self.BAD_POINTS)
        self.answer([-1], g=SETTING, w=self.BAD_WATCHES)
        self.answer([-1], p=[(0, 0)] * 257)
        self.answer([-1], p=self.BAD_POINTS, w=watches(33))
        self.answer([-1], p=self.BAD_POINTS, t=staffs(33))


class TheObject(unittest.TestCase):
    GOOD = gauge(s=1, p=[(0, 0), (1, 5), (2, 0)], w=[(0, 10)], t=[(0, 1, 4)])
    ASKED = (SPIKES, time(0), zero(0))
    TOLD = [[0, 1, 1], [0, 10, 0, 1], [0, 3, 0, 1]]
    REFUSED = (
        (gauge(s=SETTING, p=points(3), w=[(0, 7)], t=[(0, 0, 9)]), [-1]),
        (gauge(p=points(257), w=[(0, 7)], t=[(0, 0, 9)]), [-1]),
        (gauge(p=[(1, 1), (1, 1)], w=[(0, 7)], t=[(0, 0, 9)]), [-6, 0, 1]),
        (gauge(p=points(3), w=[(0, 7), (0, 8)], t=[(0, 0, 9)]), [-6, 1, 1]),
        (gauge(p=points(3), w=[(0, 7)], t=[(0, 0, 9), (0, 0, 0)]), [-6, 2, 1]),
    )

    def test_refused_leaves_the_gauge(self):
        for call, refusal in self.REFUSED:
            self.assertEqual(ask(self.GOOD, call, *self.ASKED), [[0], refusal] + self.TOLD)

    def test_refused_leaves_none(self):
        for call, refusal in self.REFUSED:
            self.assertEqual(ask(call, *self.ASKED), [refusal, [-3], [-3], [-3]])

    def test_a_second_gauge_takes_the_place_of_the_first(self):
        told = ask(self.GOOD, gauge(p=points(3)), *self.ASKED)
        self.assertEqual(told, [[0], [0], [0, 0], [0, 0, 0, 1], [0, 0, 0, 1]])

    def test_taken_behind_a_refused_one(self):
        self.assertEqual(ask(self.REFUSED[0][0], self.GOOD, *self.ASKED), [[-1], [0]] + self.TOLD)


if __name__ == "__main__":
    unittest.main()
