"""How calls are written out and answers read, for the tests."""

from gaugeclock.gauges import answers

TIME = 2 ** 36
HEIGHT = 1000000


def flat(groups):
    return [number for group in groups for number in group]


def gauge(s=0, g=0, p=(), w=(), t=()):
    """The call gauge; p, w and t are lists of tuples."""
    call = [0, s, g]
    for groups in (p, w, t):
        numbers = flat(groups)
        call += [len(numbers)] + numbers
    return call


SPIKES = [1]


def time(c):
    return [2, c]


def zero(c):
    return [3, c]


def at(t):
    return [4, t]


def row(t, step, k):
    return [5, t, step, k]


def smooth(h, w):
    """The call smooth; h is a list of heights, with None where there is none."""
    return raw_smooth([(0, 0) if height is None else (1, height) for height in h], w)


def raw_smooth(pairs, w):
    """The call smooth with its heights as they are written."""
    numbers = flat(pairs)
    return [6, len(numbers)] + numbers + [len(w)] + list(w)


def rows(heights):
    """The answer of row or smooth with these heights, None where there is none."""
    there = [height for height in heights if height is not None]
    return [len(there), len(heights)] + flat([[0] if height is None else [1, height] for height in heights])


def ask(*calls):
    """The answers to the calls, made in one list: a list for each call."""
    return split(answers(flat(calls)))


def split(told):
    found = []
    place = 0
    while place < len(told):
        end = place + 1 + told[place]
        found.append(told[place + 1:end])
        place = end
    if place != len(told):
        raise ValueError("the last answer is cut short")
    return found
