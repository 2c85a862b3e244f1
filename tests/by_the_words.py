"""What the document asks, said once more in fractions and without haste, for the tests; and gauges made by chance."""

from fractions import Fraction
from math import floor

from case_forms import HEIGHT, TIME


def line_value(checks, c):
    for (c1, v1), (c2, v2) in zip(checks, checks[1:]):
        if c1 <= c <= c2:
            return v1 + Fraction((c - c1) * (v2 - v1), c2 - c1)
    raise ValueError(c)


def time_by_the_words(watches, c):
    if not watches:
        return Fraction(c)
    for edge, beyond in ((watches[0], c <= watches[0][0]), (watches[-1], c >= watches[-1][0])):
        if beyond:
            return Fraction(c + edge[1] - edge[0])
    return line_value(watches, c)


def zero_by_the_words(staffs, c):
    if not staffs:
        return Fraction(0)
    checks = [(clock, staff - pen) for clock, pen, staff in staffs]
    if c <= checks[0][0]:
        return Fraction(checks[0][1])
    if c >= checks[-1][0]:
        return Fraction(checks[-1][1])
    return line_value(checks, c)


def spikes_by_the_words(s, pens):
    found = []
    for k in range(1, len(pens) - 1):
        sides = (pens[k - 1], pens[k + 1])
        if all(pens[k] > side + s for side in sides) or all(pens[k] < side - s for side in sides):
            found.append(k)
    return found


def kept_by_the_words(s, p, w, t):
    """True time and true height of each kept point."""
    spikes = spikes_by_the_words(s, [pen for c, pen in p])
    return [(time_by_the_words(w, c), pen + zero_by_the_words(t, c))
            for k, (c, pen) in enumerate(p) if k not in spikes]


def rounded(value):
    return floor(value + Fraction(1, 2))


def exact_height(kept, g, moment):
    """The height at the true time before it is rounded, and the heights of the points it comes from; or None."""
    for when, height in kept:
        if when == moment:
            return height, [height]
    before = [point for point in kept if point[0] < moment]
    behind = [point for point in kept if point[0] > moment]
    if not before or not behind or behind[0][0] - before[-1][0] > g:
        return None
    ends = [before[-1], behind[0]]
    return line_value(ends, moment), [height for when, height in ends]


def at_by_the_words(kept, g, moment):
    if abs(moment) > TIME:
        return [-1]
    found = exact_height(kept, g, moment)
    return [0] if found is None else [1, rounded(found[0])]


def smooth_by_the_words(h, w):
    """The smoothed heights, with None where there is none; h likewise."""
    there = {i: height for i, height in enumerate(h) if height is not None}
    found = []
    for i in range(len(h)):
        parts = [(weight, there.get(place)) for j, weight in enumerate(w) if weight != 0
                 for place in sorted({i - j, i + j})]
        if any(height is None for weight, height in parts):
            found.append(None)
        else:
            whole = w[0] + 2 * sum(w[1:])
            found.append(rounded(Fraction(sum(weight * height for weight, height in parts), whole)))
    return found


def rising(chance, count, least, most):
    return sorted(chance.sample(range(least, most), count))


def chance_gauges(chance, turns=40):
    """The parts of many gauges: small ones, where much falls together, and some as wide as may be."""
    for reach, high in ((6, 3), (12, 5), (40, 30), (1000, 1000), (TIME, HEIGHT)):
        for turn in range(turns):
            most = min(33, reach)
            clocks = rising(chance, chance.randrange(most), -reach, reach)
            w = list(zip(clocks, rising(chance, len(clocks), -reach, reach)))
            t = [(c, chance.randint(-high, high), chance.randint(-high, high))
                 for c in rising(chance, chance.randrange(most), -reach, reach)]
            p = [(c, chance.randint(-high, high)) for c in rising(chance, chance.randrange(2 * most), -reach, reach)]
            g = min(chance.choice([0, 1, 2, 3, reach // 32, reach // 4, reach]), 2 ** 32 - 1)
            yield {"s": chance.randrange(high), "g": g, "p": p, "w": w, "t": t}


def moments_near(chance, kept, count=20):
    """True times to ask for: round each kept point's, and some by chance."""
    asked = {floor(when) + near for when, height in kept for near in (-1, 0, 1)}
    reach = 3 + max([abs(floor(when)) for when, height in kept], default=0)
    asked.update(chance.randint(-reach, reach) for k in range(count))
    return sorted(moment for moment in asked if abs(moment) <= TIME)
