"""The call spikes."""

import random
import unittest

from by_the_words import spikes_by_the_words
from case_forms import HEIGHT, SPIKES, ask, gauge


def spikes(s, pens):
    """The answer to spikes on points with these pens' heights."""
    return ask(gauge(s=s, p=list(enumerate(pens))), SPIKES)[1]


class Spikes(unittest.TestCase):
    def test_above_and_below(self):
        self.assertEqual(spikes(10, [0, 50, 0, 0, -50, 0]), [0, 2, 1, 4])

    def test_none(self):
        self.assertEqual(spikes(10, [0, 1, 2, 3]), [0, 0])

    def test_more_than_s_above(self):
        self.assertEqual(spikes(10, [0, 10, 0]), [0, 0])
        self.assertEqual(spikes(10, [0, 11, 0]), [0, 1, 1])

    def test_more_than_s_below(self):
        self.assertEqual(spikes(10, [0, -10, 0]), [0, 0])
        self.assertEqual(spikes(10, [0, -11, 0]), [0, 1, 1])

    def test_both_neighbours_count(self):
        self.assertEqual(spikes(10, [0, 11, 1]), [0, 0])
        self.assertEqual(spikes(10, [1, 11, 0]), [0, 0])
        self.assertEqual(spikes(10, [0, -11, -1]), [0, 0])
        self.assertEqual(spikes(10, [-1, -11, 0]), [0, 0])

    def test_a_step_is_no_spike(self):
        self.assertEqual(spikes(10, [0, 50, 100]), [0, 0])
        self.assertEqual(spikes(10, [100, 50, 0]), [0, 0])

    def test_s_is_0(self):
        self.assertEqual(spikes(0, [5, 5, 5]), [0, 0])
        self.assertEqual(spikes(0, [5, 6, 5]), [0, 1, 1])
        self.assertEqual(spikes(0, [5, 4, 5]), [0, 1, 1])

    def test_first_and_last_are_none(self):
        self.assertEqual(spikes(10, [900, 0, 0, 900]), [0, 0])
        self.assertEqual(spikes(10, [900, 0, 900]), [0, 1, 1])

    def test_few_points(self):
        self.assertEqual(spikes(0, []), [0, 0])
        self.assertEqual(spikes(0, [9]), [0, 0])
        self.assertEqual(spikes(0, [9, -9]), [0, 0])

    def test_neighbours_are_those_drawn_spikes_too(self):
        self.assertEqual(spikes(10, [0, 50, 0, 50, 0]), [0, 3, 1, 2, 3])

    def test_largest(self):
        pens = [-HEIGHT, HEIGHT, -HEIGHT]
        self.assertEqual(spikes(2 * HEIGHT - 1, pens), [0, 1, 1])
        self.assertEqual(spikes(2 * HEIGHT, pens), [0, 0])
        self.assertEqual(spikes(2 ** 32 - 1, pens), [0, 0])

    def test_most_points(self):
        pens = [k % 2 for k in range(256)]
        self.assertEqual(spikes(0, pens), [0, 254] + list(range(1, 255)))

    def test_pens_as_drawn_without_the_checks(self):
        call = gauge(s=10, p=[(0, 0), (1, 11), (2, 0)], w=[(0, 0), (2, 1)], t=[(0, 0, 0), (1, 50, 0), (2, 0, 0)])
        self.assertEqual(ask(call, SPIKES)[1], [0, 1, 1])

    def test_against_the_words(self):
        chance = random.Random(7)
        for turn in range(200):
            s = chance.randrange(4)
            pens = [chance.randrange(-4, 5) for k in range(chance.randrange(12))]
            expected = spikes_by_the_words(s, pens)
            self.assertEqual(spikes(s, pens), [0, len(expected)] + expected)


if __name__ == "__main__":
    unittest.main()
