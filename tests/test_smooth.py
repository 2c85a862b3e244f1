"""The call smooth."""

import random
import unittest

from by_the_words import smooth_by_the_words
from case_forms import SPIKES, ask, at, gauge, raw_smooth, row, rows, smooth, time, zero

MOST = 4000000
WEIGHT = 65536


class SmoothCase(unittest.TestCase):
    def answer(self, expected, call):
        self.assertEqual(ask(call), [expected], call)

    def heights(self, expected, h, w):
        self.answer(rows(expected), smooth(h, w))


class Smoothed(SmoothCase):
    def test_ordinary(self):
        self.answer([3, 5, 0, 1, 4, 1, 6, 1, 5, 0], smooth([0, 4, 8, 4, 4], [2, 1]))

    def test_one_weight_changes_nothing(self):
        self.heights([5, None, -7, 0], [5, None, -7, 0], [1])
        self.heights([5, None, -7, 0], [5, None, -7, 0], [WEIGHT])

    def test_both_sides_count_alike(self):
        self.heights([None, 2, None], [0, 0, 6], [1, 1])
        self.heights([None, 2, None], [6, 0, 0], [1, 1])

    def test_each_weight_at_its_distance(self):
        # (4 * 1 + 2 * (10 + 20) + 1 * (100 + 200)) / (4 + 4 + 2)
        self.heights([None, None, 36, None, None], [100, 10, 1, 20, 200], [4, 2, 1])

    def test_a_missing_height_takes_those_near_it(self):
        self.heights([None, 1, None, None, None, 1, None], [1, 1, 1, None, 1, 1, 1], [1, 1])

    def test_a_missing_height_is_not_0(self):
        self.heights([None, None, None], [6, None, 6], [1, 1])
        self.heights([None, 4, None], [6, 0, 6], [1, 1])

    def test_none_there(self):
        self.heights([None] * 4, [None] * 4, [1])
        self.heights([None] * 4, [None] * 4, [1, 1])

    def test_what_is_before_the_first_or_behind_the_last_is_not_there(self):
        self.heights([None, None, 3, None, None], [3, 3, 3, 3, 3], [1, 1, 1])
        self.heights([None, None, None, None], [3, 3, 3, 3], [1, 1, 1])
        # Not taken from the other end either.
        self.heights([None, 1, 2, None], [0, 1, 2, 3], [0, 1])


class WeightsOf0(SmoothCase):
    def test_within(self):
        self.heights([None, None, 4, None, None], [3, None, 5, None, 3], [2, 0, 1])

    def test_the_last(self):
        self.heights([None, 3, 3, None], [3, 3, 3, 3], [1, 1, 0, 0])
        self.heights([1, 2, 3], [1, 2, 3], [1, 0, 0, 0])
        self.heights([1, None, 3], [1, None, 3], [1] + [0] * 31)

    def test_the_first(self):
        self.heights([None, 3, None, 4, None], [1, None, 5, None, 3], [0, 1])
        self.heights([None, None, 5, None, None], [9, 4, None, 5, 1], [0, 0, 1])

    def test_all_but_the_last_of_the_most(self):
        h = [7] + [None] * 61 + [10, 99]
        self.heights([None] * 31 + [9] + [None] * 32, h, [0] * 31 + [3])


class Rounded(SmoothCase):
    def test_a_tie_to_the_greater(self):
        self.heights([None, 1, None], [0, 9, 1], [0, 1])
        self.heights([None, 4, None], [3, 9, 4], [0, 1])

    def test_a_tie_below_0(self):
        self.heights([None, 0, None], [0, 9, -1], [0, 1])
        self.heights([None, -3, None], [-3, 9, -4], [0, 1])

    def test_nearest(self):
        self.heights([None, 0, None], [0, 0, 1], [1, 1])
        self.heights([None, 1, None], [1, 0, 1], [1, 1])
        self.heights([None, 0, None], [0, 0, -1], [1, 1])
        self.heights([None, -1, None], [-1, 0, -1], [1, 1])

    def test_once_for_all(self):
        # Each part alone is less than a half.
        self.heights([None, None, 1, None, None], [1, 1, 1, 0, 0], [1, 1, 1])


class TooMuch(SmoothCase):
    def test_heights(self):
        self.heights([], [], [1])
        self.heights([5], [5], [1])
        self.heights([None], [5], [1, 1])
        self.heights(list(range(256)), list(range(256)), [1])
        self.answer([-1], smooth(range(257), [1]))
        self.answer([-1], smooth(range(500), [1]))

    def test_weights(self):
        self.answer([-1], smooth([5], []))
        self.answer([-1], smooth([], []))
        self.heights([None] * 31 + [5] + [None] * 31, [5] * 63, [1] * 32)
        self.answer([-1], smooth([5] * 65, [1] * 33))
        self.answer([-1], smooth([5], [1] + [0] * 32))
        self.answer([-1], smooth([5], [1] * 100))

    def test_a_weight(self):
        self.heights([5], [5], [WEIGHT])
        self.heights([None, 5, None], [5, 5, 5], [WEIGHT, WEIGHT])
        self.answer([-1], smooth([5], [WEIGHT + 1]))
        self.answer([-1], smooth([5], [1, WEIGHT + 1]))
        self.answer([-1], smooth([5], [2 ** 38, 1]))
        self.answer([-1], smooth([], [WEIGHT + 1]))

    def test_all_0(self):
        for count in (1, 2, 32):
            self.answer([-1], smooth([5], [0] * count))
            self.answer([-1], smooth([], [0] * count))
            self.answer([0, 1, 0] if count > 1 else [1, 1, 1, 5], smooth([5], [0] * (count - 1) + [1]))


class OutOfForm(SmoothCase):
    def test_heights_at_their_bounds(self):
        self.heights([-MOST, MOST], [-MOST, MOST], [1])
        self.heights([None, MOST, None], [MOST] * 3, [WEIGHT] * 2)
        self.heights([None, -MOST, None], [-MOST] * 3, [WEIGHT] * 2)

    def test_heights_one_beyond(self):
        self.answer([-6], smooth([MOST + 1], [1]))
        self.answer([-6], smooth([-MOST - 1], [1]))
        self.answer([-6], smooth([2 ** 38, 0], [1]))

    def test_neither_1_nor_0(self):
        for pair in ((0, 1), (0, -1), (2, 0), (2, 5), (-1, 0), (-1, 5), (3, 0), (2 ** 38, 0), (0, MOST + 1)):
            self.answer([-6], raw_smooth([pair], [1]))

    def test_whichever_it_is(self):
        for place in (0, 1, 255):
            pairs = [(1, 5)] * 256
            pairs[place] = (0, 5)
            self.answer([-6], raw_smooth(pairs, [1]))

    def test_also_where_its_weight_is_0(self):
        self.answer([-6], raw_smooth([(1, 1), (2, 0), (1, 1)], [0, 1]))

    def test_too_much_goes_before_form(self):
        bad = [(2, 0)]
        self.answer([-1], raw_smooth(bad * 257, [1]))
        self.answer([-1], raw_smooth(bad, []))
        self.answer([-1], raw_smooth(bad, [1] * 33))
        self.answer([-1], raw_smooth(bad, [WEIGHT + 1]))
        self.answer([-1], raw_smooth(bad, [0]))
        self.answer([-6], raw_smooth(bad * 256, [1] * 32))


class TheObject(unittest.TestCase):
    CALLS = (smooth([1, 5, 9], [1, 1]), smooth([], []), raw_smooth([(0, 4)], [1]))
    TOLD = [[1, 3, 0, 1, 5, 0], [-1], [-6]]

    def test_without_a_gauge(self):
        self.assertEqual(ask(*self.CALLS, at(0)), self.TOLD + [[-3]])

    def test_the_gauge_stays(self):
        asked = (SPIKES, time(1), zero(1), at(1), row(0, 1, 3))
        taken = gauge(s=3, g=2, p=[(0, 0), (1, 6), (2, 2)], w=[(0, 0)], t=[(0, 0, 4)])
        told = [[0, 1, 1], [0, 1, 0, 1], [0, 4, 0, 1], [1, 5], [3, 3, 1, 4, 1, 5, 1, 6]]
        for call, answer in zip(self.CALLS, self.TOLD):
            self.assertEqual(ask(taken, *asked, call, *asked), [[0]] + told + [answer] + told)


class Promises(SmoothCase):
    """F6, on many rows."""

    def cases(self):
        chance = random.Random(6)
        for high in (2, 10, MOST):
            for turn in range(60):
                gap = chance.choice((0, 0, 1, 4))
                h = [None if chance.randrange(10) < gap else chance.randint(-high, high)
                     for k in range(chance.randrange(40))]
                w = [chance.choice((0, 1, 2, 3, WEIGHT, chance.randint(0, WEIGHT)))
                     for k in range(chance.randrange(1, 8))]
                w[chance.randrange(len(w))] += 0 if any(w) else 1
                yield h, w

    def test_by_the_words(self):
        for h, w in self.cases():
            self.heights(smooth_by_the_words(h, w), h, w)

    def test_between_the_least_and_the_greatest(self):
        for h, w in self.cases():
            told = iter(ask(smooth(h, w))[0][2:])
            for i in range(len(h)):
                if next(told) == 1:
                    height = next(told)
                    theirs = [h[place] for j in range(len(w)) if w[j] for place in (i - j, i + j)]
                    self.assertTrue(min(theirs) <= height <= max(theirs))

    def test_even_rows_stay(self):
        for height in (0, 1, -1, 7, -MOST, MOST):
            for w in ([1], [1, 1], [0, 3, 7], [5, 0, WEIGHT], [WEIGHT] * 32, [0] * 31 + [1]):
                reach = max(j for j in range(len(w)) if w[j])
                expected = [height if reach <= i < 70 - reach else None for i in range(70)]
                self.heights(expected, [height] * 70, w)


if __name__ == "__main__":
    unittest.main()
