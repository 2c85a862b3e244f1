"""The call at: the height at a true time."""

import random
import unittest

from by_the_words import (at_by_the_words, chance_gauges, exact_height, kept_by_the_words, moments_near,
                          spikes_by_the_words)
from case_forms import HEIGHT, SPIKES, TIME, ask, at, gauge, row, time, zero

WIDE = 2 ** 32 - 1


def heights(moments, **parts):
    """The answers to at, at each of the moments."""
    return ask(gauge(**parts), *[at(moment) for moment in moments])[1:]


class Bounds(unittest.TestCase):
    def test_times_at_and_beyond_them(self):
        told = heights([-TIME - 1, -TIME, TIME, TIME + 1, -2 ** 38, 2 ** 38], p=[(-TIME, 4), (TIME, 9)])
        self.assertEqual(told, [[-1], [1, 4], [1, 9], [-1], [-1], [-1]])

    def test_without_a_height_there(self):
        self.assertEqual(heights([-TIME - 1, -TIME, TIME, TIME + 1]), [[-1], [0], [0], [-1]])

    def test_points_whose_true_times_lie_beyond_them(self):
        told = heights([TIME - 1, TIME, TIME + 1], g=8, p=[(0, 0), (4, 8)], w=[(0, TIME - 2)])
        self.assertEqual(told, [[1, 2], [1, 4], [-1]])


class AtAPoint(unittest.TestCase):
    def test_just_there(self):
        self.assertEqual(heights([3, 5, 9], s=100, p=[(3, 7), (5, -7), (9, 0)]), [[1, 7], [1, -7], [1, 0]])

    def test_by_the_true_time_not_the_clock(self):
        self.assertEqual(heights([3, 13], p=[(3, 7)], w=[(0, 10)]), [[0], [1, 7]])

    def test_a_whole_time_out_of_a_fraction(self):
        # On the line from (0, 0) to (6, 4) clock 3 is 12 / 6.
        told = heights([1, 2, 3], p=[(3, 7)], w=[(0, 0), (6, 4)])
        self.assertEqual(told, [[0], [1, 7], [0]])

    def test_a_time_that_is_not_whole_is_no_t(self):
        # Clock 1 is at 2/3, clock 4 at 2 2/3.
        told = heights([0, 1, 2, 3], p=[(1, 0), (4, 6)], w=[(0, 0), (6, 4)])
        self.assertEqual(told, [[0]] * 4)
        told = heights([0, 1, 2, 3], g=2, p=[(1, 0), (4, 6)], w=[(0, 0), (6, 4)])
        self.assertEqual(told, [[0], [1, 1], [1, 4], [0]])

    def test_a_time_beside_t_by_the_least(self):
        # Clock 0 is at just above a half, clock TIME - 2 at just below TIME - 1.
        watches = [(-TIME, -TIME), (TIME - 1, TIME)]
        told = heights([0, 1, TIME - 2, TIME - 1], p=[(0, 5), (TIME - 2, 6)], w=watches)
        self.assertEqual(told, [[0]] * 4)

    def test_with_its_zero(self):
        told = heights([0, 5, 10], p=[(0, 1), (5, 1), (10, 1)], t=[(0, 10, 14), (10, 10, 8)])
        self.assertEqual(told, [[1, 5], [1, 2], [1, -1]])

    def test_the_zero_is_that_at_its_clock(self):
        told = heights([100, 105], p=[(0, 0), (5, 0)], w=[(0, 100)], t=[(0, 0, 0), (10, 0, 20)])
        self.assertEqual(told, [[1, 0], [1, 10]])

    def test_a_tie_to_the_greater(self):
        # The zero at clock 1 is a half, or a half below 0.
        self.assertEqual(heights([1], p=[(1, 0)], t=[(0, 0, 0), (2, 0, 1)]), [[1, 1]])
        self.assertEqual(heights([1], p=[(1, 0)], t=[(0, 0, 0), (2, 0, -1)]), [[1, 0]])
        self.assertEqual(heights([1], p=[(1, -4)], t=[(0, 0, 0), (2, 0, 1)]), [[1, -3]])

    def test_nearest(self):
        staffs = [(0, 0, 0), (3, 0, 1)]
        self.assertEqual(heights([1, 2], p=[(1, 0), (2, 0)], t=staffs), [[1, 0], [1, 1]])
        self.assertEqual(heights([1, 2], p=[(1, -5), (2, -5)], t=staffs), [[1, -5], [1, -4]])

    def test_greatest_heights(self):
        staffs = [(0, -HEIGHT, HEIGHT), (1, HEIGHT, -HEIGHT)]
        told = heights([0, 1], p=[(0, HEIGHT), (1, -HEIGHT)], t=staffs)
        self.assertEqual(told, [[1, 3 * HEIGHT], [1, -3 * HEIGHT]])


class BetweenPoints(unittest.TestCase):
    def test_on_the_line(self):
        told = heights([1, 2, 3], g=10, p=[(0, 0), (4, 8)])
        self.assertEqual(told, [[1, 2], [1, 4], [1, 6]])

    def test_the_neighbours_line_of_several(self):
        told = heights([1, 3, 5], g=2, p=[(0, 0), (2, 10), (4, 30), (6, 20)], s=100)
        self.assertEqual(told, [[1, 5], [1, 20], [1, 25]])

    def test_before_the_first_and_behind_the_last(self):
        told = heights([-TIME, -1, 0, 4, 5, TIME], g=WIDE, p=[(0, 0), (4, 8)])
        self.assertEqual(told, [[0], [0], [1, 0], [1, 8], [0], [0]])

    def test_a_gap_of_just_g(self):
        self.assertEqual(heights([1, 9], g=10, p=[(0, 0), (10, 10)]), [[1, 1], [1, 9]])

    def test_a_gap_of_1_more(self):
        self.assertEqual(heights([0, 1, 9, 10], g=9, p=[(0, 0), (10, 10)]), [[1, 0], [0], [0], [1, 10]])

    def test_a_gap_in_true_time(self):
        parts = {"p": [(0, 0), (10, 10)], "w": [(0, 0), (10, 20)]}
        self.assertEqual(heights([10], g=10, **parts), [[0]])
        self.assertEqual(heights([10], g=20, **parts), [[1, 5]])
        parts["w"] = [(0, 0), (10, 5)]
        self.assertEqual(heights([2], g=5, **parts), [[1, 4]])
        self.assertEqual(heights([2], g=4, **parts), [[0]])

    def test_a_gap_of_more_by_a_fraction(self):
        # A clock's second is 1 1/3 true ones: 3 of them make just 4, and between two fractions too.
        watches = [(0, 0), (30, 40)]
        self.assertEqual(heights([2, 3], g=4, p=[(1, 0), (4, 12)], w=watches), [[1, 2], [1, 5]])
        self.assertEqual(heights([2, 3], g=3, p=[(1, 0), (4, 12)], w=watches), [[0], [0]])
        # From 0 to 5 1/3, and from 1 1/3 to 6 2/3.
        for points in ([(0, 0), (4, 8)], [(1, 0), (5, 8)]):
            self.assertEqual(heights([3], g=5, p=points, w=watches), [[0]])
            self.assertNotEqual(heights([3], g=6, p=points, w=watches), [[0]])

    def test_a_gap_of_more_by_the_least_fraction(self):
        # The clock loses a second in all of its time, and then gains one; half of it by clock 0.
        points = [(0, 0), (1000, 1000)]
        watches = [(-TIME, -TIME), (TIME - 1, TIME)]
        self.assertEqual(heights([500], g=1000, p=points, w=watches), [[0]])
        self.assertEqual(heights([500], g=1001, p=points, w=watches), [[1, 499]])
        watches = [(-TIME, -TIME), (TIME, TIME - 1)]
        self.assertEqual(heights([500], g=1000, p=points, w=watches), [[1, 501]])

    def test_the_widest_gap(self):
        self.assertEqual(heights([1], g=WIDE, p=[(0, 0), (WIDE, 0)]), [[1, 0]])
        self.assertEqual(heights([1], g=WIDE, p=[(0, 0), (WIDE + 1, 0)]), [[0]])

    def test_each_gap_for_itself(self):
        told = heights([1, 5, 11], g=2, p=[(0, 0), (2, 2), (10, 10), (12, 12)])
        self.assertEqual(told, [[1, 1], [0], [1, 11]])

    def test_g_is_0(self):
        self.assertEqual(heights([0, 1, 2], p=[(0, 5), (2, 7)]), [[1, 5], [0], [1, 7]])
        # Points nearer than a second, round a whole one.
        told = heights([1], p=[(1, 5), (2, 7)], w=[(0, 0), (6, 4)])
        self.assertEqual(told, [[0]])

    def test_points_nearer_than_a_second(self):
        told = heights([0, 1, 2], g=1, p=[(0, 0), (1, 3), (2, 6), (3, 9)], w=[(0, 0), (6, 4)])
        self.assertEqual(told, [[1, 0], [1, 5], [1, 9]])

    def test_a_tie_to_the_greater(self):
        self.assertEqual(heights([1], g=2, p=[(0, 0), (2, 1)]), [[1, 1]])
        self.assertEqual(heights([1], g=2, p=[(0, 1), (2, 0)]), [[1, 1]])
        self.assertEqual(heights([1], g=2, p=[(0, 2), (2, 3)]), [[1, 3]])

    def test_a_tie_below_0(self):
        self.assertEqual(heights([1], g=2, p=[(0, 0), (2, -1)]), [[1, 0]])
        self.assertEqual(heights([1], g=2, p=[(0, -1), (2, -2)]), [[1, -1]])
        self.assertEqual(heights([1], g=2, p=[(0, -4), (2, -3)]), [[1, -3]])

    def test_nearest(self):
        self.assertEqual(heights([1, 2], g=3, p=[(0, 0), (3, 1)]), [[1, 0], [1, 1]])
        self.assertEqual(heights([1, 2], g=3, p=[(0, 0), (3, -1)]), [[1, 0], [1, -1]])

    def test_a_tie_missed_by_the_least(self):
        # Half-way is a tie; a second off, in the most that a gap may be, is none.
        half = 2 ** 31
        told = heights([half - 1, half, half + 1], g=2 * half - 1, p=[(0, 0), (2 * half - 2, 1)])
        self.assertEqual(told, [[1, 1], [1, 1], [1, 1]])
        told = heights([half - 2], g=2 * half - 1, p=[(0, 0), (2 * half - 2, 1)])
        self.assertEqual(told, [[1, 0]])

    def test_rounded_once(self):
        # The ends are a half and 0: a quarter lies between, whereas the told ends are 1 and 0.
        told = heights([0, 1, 2], g=2, p=[(0, 0), (2, -1)], t=[(-1, 0, 0), (1, 0, 1), (3, 0, 1)])
        self.assertEqual(told, [[1, 1], [1, 0], [1, 0]])

    def test_the_zero_is_not_asked_between_points(self):
        # A staff check between two points changes nothing on their line.
        told = heights([5], g=10, p=[(0, 0), (10, 0)], t=[(0, 0, 0), (5, 0, 100), (10, 0, 0)])
        self.assertEqual(told, [[1, 0]])

    def test_a_watch_check_between_points(self):
        # The line is one of true times: (0, 0) to (20, 10), whatever the clock did between.
        told = heights([4, 10], g=20, p=[(0, 0), (10, 10)], w=[(0, 0), (5, 4), (10, 20)])
        self.assertEqual(told, [[1, 2], [1, 5]])


class Spikes(unittest.TestCase):
    def test_passed_over(self):
        told = heights([0, 1, 2, 3, 4], s=10, g=4, p=[(0, 0), (2, 50), (4, 8)])
        self.assertEqual(told, [[1, 0], [1, 2], [1, 4], [1, 6], [1, 8]])

    def test_below_too(self):
        self.assertEqual(heights([2], s=10, g=4, p=[(0, 0), (2, -50), (4, 8)]), [[1, 4]])

    def test_just_s_is_kept(self):
        self.assertEqual(heights([2], s=10, g=4, p=[(0, 0), (2, 10), (4, 0)]), [[1, 10]])
        self.assertEqual(heights([2], s=10, g=4, p=[(0, 0), (2, 11), (4, 0)]), [[1, 0]])

    def test_the_gap_is_that_of_kept_points(self):
        self.assertEqual(heights([1, 2, 3], s=10, g=3, p=[(0, 0), (2, 50), (4, 8)]), [[0]] * 3)

    def test_all_but_the_ends(self):
        points = [(0, 0), (2, 50), (4, 0), (6, 50), (8, 16)]
        told = heights([0, 2, 4, 6, 8], s=10, g=8, p=points)
        self.assertEqual(told, [[1, 0], [1, 4], [1, 8], [1, 12], [1, 16]])
        told = heights([0, 2, 4, 6, 8], s=10, g=7, p=points)
        self.assertEqual(told, [[1, 0], [0], [0], [0], [1, 16]])

    def test_of_pens_not_of_true_heights(self):
        # The zero makes an even row of what the pen drew as a spike.
        told = heights([1], s=10, g=2, p=[(0, 0), (1, 50), (2, 0)], t=[(0, 0, 7), (1, 50, 7), (2, 0, 7)])
        self.assertEqual(told, [[1, 7]])
        told = heights([1], s=10, g=2, p=[(0, 0), (1, 50), (2, 0)], t=[(0, 0, 0), (1, 50, 0), (2, 0, 6)])
        self.assertEqual(told, [[1, 3]])
        # And a bend of the zero makes no spike.
        told = heights([1], s=10, g=2, p=[(0, 0), (1, 0), (2, 0)], t=[(0, 0, 0), (1, 0, 90), (2, 0, 0)])
        self.assertEqual(told, [[1, 90]])


class FewPoints(unittest.TestCase):
    def test_none(self):
        self.assertEqual(heights([-1, 0, 1], g=WIDE, w=[(0, 0)], t=[(0, 0, 5)]), [[0]] * 3)

    def test_one(self):
        self.assertEqual(heights([-1, 0, 1], g=WIDE, p=[(0, 5)]), [[0], [1, 5], [0]])

    def test_two(self):
        self.assertEqual(heights([0, 1, 2], g=WIDE, p=[(0, 900), (2, 0)]), [[1, 900], [1, 450], [1, 0]])


class ManyBits(unittest.TestCase):
    def test_a_line_of_wide_fractions(self):
        watches = [(-TIME, -TIME), (TIME - 1, TIME)]
        staffs = [(-TIME, HEIGHT, -HEIGHT), (TIME - 2, -HEIGHT, HEIGHT)]
        points = [(-7, -HEIGHT), (2 ** 31, HEIGHT), (2 ** 32 - 90, 1 - HEIGHT)]
        parts = {"s": WIDE, "g": WIDE, "p": points, "w": watches, "t": staffs}
        kept = kept_by_the_words(WIDE, points, watches, staffs)
        moments = [-7, -6, 0, 1, 2 ** 30 + 1, 2 ** 31, 2 ** 31 + 1, 2 ** 32 - 91, 2 ** 32 - 90, 2 ** 32]
        self.assertEqual(heights(moments, **parts), [at_by_the_words(kept, WIDE, moment) for moment in moments])


class Promises(unittest.TestCase):
    """What is promised of heights, on many gauges."""

    def cases(self, turns=40):
        chance = random.Random(11)
        for parts in chance_gauges(chance, turns):
            kept = kept_by_the_words(parts["s"], parts["p"], parts["w"], parts["t"])
            yield parts, kept, moments_near(chance, kept)

    def test_by_the_words(self):
        for parts, kept, moments in self.cases():
            expected = [at_by_the_words(kept, parts["g"], moment) for moment in moments]
            self.assertEqual(heights(moments, **parts), expected, parts)

    def test_a_kept_point_has_its_height(self):
        # F2, asked of the program alone: its own times, zeros and spikes.
        seen = 0
        for parts, kept, moments in self.cases(20):
            clocks = [c for c, pen in parts["p"]]
            told = ask(gauge(**parts), SPIKES, *[time(c) for c in clocks], *[zero(c) for c in clocks])[1:]
            spikes = told[0][2:]
            for k, (c, pen) in enumerate(parts["p"]):
                when = told[1 + k]
                zero_there = told[1 + len(clocks) + k]
                if k not in spikes and when[2] == 0 and abs(when[1]) <= TIME:
                    seen += 1
                    up = 1 if 2 * zero_there[2] >= zero_there[3] else 0
                    self.assertEqual(heights([when[1]], **parts), [[1, pen + zero_there[1] + up]])
        self.assertGreater(seen, 50)

    def test_heights_lie_between_their_points(self):
        # F3: at most the rounding beyond.
        for parts, kept, moments in self.cases(20):
            for moment, answer in zip(moments, heights(moments, **parts)):
                if answer[0] == 1:
                    ends = exact_height(kept, parts["g"], moment)[1]
                    self.assertLessEqual(2 * min(ends) - 1, 2 * answer[1])
                    self.assertLessEqual(2 * answer[1], 2 * max(ends) + 1)

    def test_a_spike_moved_farther_off(self):
        # F5
        chance = random.Random(5)
        seen = 0
        for parts, kept, moments in self.cases(20):
            pens = [pen for c, pen in parts["p"]]
            spikes = spikes_by_the_words(parts["s"], pens)
            if not spikes:
                continue
            seen += 1
            k = chance.choice(spikes)
            above = pens[k] > pens[k - 1]
            pen = chance.randint(pens[k], HEIGHT) if above else chance.randint(-HEIGHT, pens[k])
            moved = dict(parts, p=parts["p"][:k] + [(parts["p"][k][0], pen)] + parts["p"][k + 1:])
            calls = [SPIKES, row(-3, 1, 200)] + [call(moment) for moment in moments for call in (at, time, zero)]
            self.assertEqual(ask(gauge(**moved), *calls), ask(gauge(**parts), *calls))
        self.assertGreater(seen, 50)


if __name__ == "__main__":
    unittest.main()
