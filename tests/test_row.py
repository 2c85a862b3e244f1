"""The call row."""

import random
import unittest

from by_the_words import at_by_the_words, chance_gauges, kept_by_the_words, moments_near
from case_forms import TIME, ask, at, gauge, row, rows

POINTS = [(0, 0), (2, 10), (4, 30), (10, 7)]
GAUGE = gauge(s=1000, g=2, p=POINTS)


def answer(call, taken=GAUGE):
    return ask(taken, call)[1]


class Heights(unittest.TestCase):
    def test_some_there_and_some_not(self):
        expected = [6, 12, 0, 1, 0, 1, 5, 1, 10, 1, 20, 1, 30, 0, 0, 0, 0, 0, 1, 7]
        self.assertEqual(answer(row(-1, 1, 12)), expected)

    def test_all_there(self):
        self.assertEqual(answer(row(0, 2, 3)), [3, 3, 1, 0, 1, 10, 1, 30])

    def test_none_there(self):
        self.assertEqual(answer(row(5, 1, 5)), [0, 5, 0, 0, 0, 0, 0])
        self.assertEqual(answer(row(0, 1, 3), gauge()), [0, 3, 0, 0, 0])

    def test_a_height_of_0_is_there(self):
        self.assertEqual(answer(row(0, 1, 3), gauge(g=2, p=[(0, 0), (2, 0)])), [3, 3, 1, 0, 1, 0, 1, 0])

    def test_below_0(self):
        self.assertEqual(answer(row(-4, 3, 2), gauge(g=4, p=[(-4, -9), (0, -2)])), [2, 2, 1, -9, 1, -4])

    def test_one(self):
        self.assertEqual(answer(row(1, 1, 1)), [1, 1, 1, 5])
        self.assertEqual(answer(row(7, 1, 1)), [0, 1, 0])

    def test_no_time(self):
        self.assertEqual(answer(row(1, 1, 0)), [0, 0])

    def test_the_most(self):
        taken = gauge(s=1000, g=1, p=[(k, k % 7) for k in range(256)])
        self.assertEqual(answer(row(0, 1, 256), taken), rows([k % 7 for k in range(256)]))
        self.assertEqual(answer(row(1, 1, 256), taken), rows([k % 7 for k in range(1, 256)] + [None]))


class Refused(unittest.TestCase):
    def test_too_many(self):
        self.assertEqual(answer(row(0, 1, 256))[:2], [6, 256])
        self.assertEqual(answer(row(0, 1, 257)), [-1])
        self.assertEqual(answer(row(0, 1, 2 ** 38)), [-1])

    def test_step_is_0(self):
        for count in (0, 1, 2, 256, 257):
            self.assertEqual(answer(row(0, 0, count)), [-1])

    def test_t_out_of_its_bounds(self):
        for count in (0, 1, 2):
            for t in (-TIME - 1, TIME + 1, -2 ** 38, 2 ** 38):
                self.assertEqual(answer(row(t, 1, count)), [-1], (t, count))

    def test_a_row_from_below_the_bounds(self):
        # The last one lies within, the first does not.
        self.assertEqual(answer(row(-TIME - 1, TIME, 2)), [-1])

    def test_t_at_its_bounds(self):
        taken = gauge(p=[(-TIME, 3), (TIME, 4)])
        self.assertEqual(answer(row(-TIME, 1, 2), taken), [1, 2, 1, 3, 0])
        self.assertEqual(answer(row(TIME, 1, 1), taken), [1, 1, 1, 4])

    def test_the_last_at_the_bound_and_beyond(self):
        taken = gauge(p=[(-TIME, 3), (TIME, 4)])
        self.assertEqual(answer(row(TIME - 4, 2, 3), taken), [1, 3, 0, 0, 1, 4])
        self.assertEqual(answer(row(TIME - 3, 2, 3), taken), [-1])
        self.assertEqual(answer(row(TIME - 4, 2, 4), taken), [-1])
        self.assertEqual(answer(row(-TIME, 2 * TIME, 2), taken), [2, 2, 1, 3, 1, 4])
        self.assertEqual(answer(row(-TIME, 2 * TIME + 1, 2), taken), [-1])
        self.assertEqual(answer(row(TIME - 255, 1, 256), taken)[:2], [1, 256])
        self.assertEqual(answer(row(TIME - 254, 1, 256), taken), [-1])

    def test_one_has_no_step(self):
        self.assertEqual(answer(row(0, 2 ** 38, 1)), [1, 1, 1, 0])
        self.assertEqual(answer(row(TIME, 2 ** 38, 1)), [0, 1, 0])

    def test_none_has_no_last(self):
        for t in (-TIME, 0, TIME):
            self.assertEqual(answer(row(t, 2 ** 38, 0)), [0, 0])
            self.assertEqual(answer(row(t, 1, 0)), [0, 0])


class SingleHeights(unittest.TestCase):
    """F4"""

    def test_each_is_what_at_answers(self):
        chance = random.Random(3)
        for parts in chance_gauges(chance, 20):
            kept = kept_by_the_words(parts["s"], parts["p"], parts["w"], parts["t"])
            start = chance.choice(moments_near(chance, kept))
            count = chance.randrange(1, 40)
            step = chance.randint(1, max(1, min(chance.choice((2, 9, TIME)), (TIME - start) // count)))
            if start + (count - 1) * step > TIME:
                continue
            moments = [start + k * step for k in range(count)]
            told = ask(gauge(**parts), row(start, step, count), *[at(moment) for moment in moments])[1:]
            singles = [None if single == [0] else single[1] for single in told[1:]]
            self.assertEqual(told[0], rows(singles))
            self.assertEqual(told[1:], [at_by_the_words(kept, parts["g"], moment) for moment in moments])


if __name__ == "__main__":
    unittest.main()
