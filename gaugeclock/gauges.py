"""Gauges: what the pen drew by a clock, put right by what an attendant looked at.

A fraction is a pair (top, bottom) of whole numbers, the bottom above 0.
A check is a pair (clock, value): of a watch check the true time, of a staff check the zero.
A height that may not be there is a whole number or None.
"""

# Times lie from -2^36 to 2^36, heights from -1,000,000 to 1,000,000.
TIME_BOUND = 68719476736
HEIGHT_BOUND = 1000000

# How far off a spike is and how wide a gap may be are both below 2^32.
SETTING_END = 4294967296

MOST_POINTS = 256
MOST_CHECKS = 32

# Of row and of smooth.
MOST_HEIGHTS = 256

MOST_WEIGHTS = 32
WEIGHT_BOUND = 65536
SMOOTH_BOUND = 4000000

# By a call's number: how many whole numbers it has, and how many rows behind these.
NUMBERS_OF_CALL = (2, 0, 1, 1, 1, 3, 0)
ROWS_OF_CALL = (3, 0, 0, 0, 0, 0, 2)


class Reader:
    """A place in the list of calls; the list itself is only read."""

    def __init__(self, numbers):
        self.numbers = numbers
        self.place = 0

    def is_done(self):
        return self.place >= len(self.numbers)

    def take_number(self):
        number = self.numbers[self.place]
        self.place += 1
        return number

    def take_row(self):
        length = self.take_number()
        row = self.numbers[self.place:self.place + length]
        self.place += length
        return row


class Gauge:
    """A gauge in form: points (clock, pen), checks (clock, value), and kept points (true time, true height)."""

    def __init__(self, spike_size, widest_gap, points, watch_checks, zero_checks):
        self.spike_size = spike_size
        self.widest_gap = widest_gap
        self.points = points
        self.watch_checks = watch_checks
        self.zero_checks = zero_checks
        self.kept = kept_points(spike_size, points, watch_checks, zero_checks)


class Recorder:
    """The object that the calls are on: new, it has no gauge."""

    def __init__(self):
        self.gauge = None


def answers(calls):
    """Answer the calls, one behind another, on one new object."""
    reader = Reader(calls)
    recorder = Recorder()
    told = []
    while not reader.is_done():
        call = reader.take_number()
        numbers = [reader.take_number() for count in range(NUMBERS_OF_CALL[call])]
        rows = [reader.take_row() for count in range(ROWS_OF_CALL[call])]
        answer = answer_call(recorder, call, numbers, rows)
        told.append(len(answer))
        told.extend(answer)
    return told


def answer_call(recorder, call, numbers, rows):
    if call == 0:
        return answer_gauge(recorder, numbers, rows)
    if call == 6:
        return answer_smooth(rows[0], rows[1])
    # Every other call needs a gauge, and this goes before its own refusals.
    if recorder.gauge is None:
        return [-3]
    if call == 1:
        return answer_spikes(recorder.gauge)
    if call == 2:
        return answer_time(recorder.gauge, numbers[0])
    if call == 3:
        return answer_zero(recorder.gauge, numbers[0])
    if call == 4:
        return answer_at(recorder.gauge, numbers[0])
    return answer_row(recorder.gauge, numbers[0], numbers[1], numbers[2])


def answer_gauge(recorder, numbers, rows):
    points = in_groups(rows[0], 2)
    watch_checks = in_groups(rows[1], 2)
    staff_checks = in_groups(rows[2], 3)
    if len(points) > MOST_POINTS or len(watch_checks) > MOST_CHECKS or len(staff_checks) > MOST_CHECKS:
        return [-1]
    if numbers[0] >= SETTING_END or numbers[1] >= SETTING_END:
        return [-1]
    fault = form_fault(points, watch_checks, staff_checks)
    if fault is not None:
        return [-6, fault[0], fault[1]]
    zero_checks = [(clock, staff - pen) for clock, pen, staff in staff_checks]
    recorder.gauge = Gauge(numbers[0], numbers[1], points, watch_checks, zero_checks)
    return [0]


def in_groups(numbers, width):
    return [tuple(numbers[start:start + width]) for start in range(0, len(numbers), width)]


def form_fault(points, watch_checks, staff_checks):
    """Which list has the first fault and its number there, or None."""
    number = first_fault(points, (TIME_BOUND, HEIGHT_BOUND), 1)
    if number is not None:
        return (0, number)
    number = first_fault(watch_checks, (TIME_BOUND, TIME_BOUND), 2)
    if number is not None:
        return (1, number)
    number = first_fault(staff_checks, (TIME_BOUND, HEIGHT_BOUND, HEIGHT_BOUND), 1)
    if number is not None:
        return (2, number)
    return None


def first_fault(groups, bounds, rising):
    """The number of the first group out of bounds, or whose first values, rising many, don't rise; or None."""
    for number, group in enumerate(groups):
        if not in_bounds(group, bounds):
            return number
        if number > 0 and not rises(groups[number - 1], group, rising):
            return number
    return None


def in_bounds(group, bounds):
    for value, bound in zip(group, bounds):
        if value < -bound or value > bound:
            return False
    return True


def rises(before, behind, rising):
    for column in range(rising):
        if behind[column] <= before[column]:
            return False
    return True


def answer_spikes(gauge):
    numbers = [k for k in range(len(gauge.points)) if is_spike(gauge.points, k, gauge.spike_size)]
    return [0, len(numbers)] + numbers


def is_spike(points, k, size):
    # The first and the last point have a neighbour on one side alone.
    if k == 0 or k == len(points) - 1:
        return False
    from_before = points[k][1] - points[k - 1][1]
    from_behind = points[k][1] - points[k + 1][1]
    if from_before > size and from_behind > size:
        return True
    return -from_before > size and -from_behind > size


def answer_time(gauge, clock):
    if not is_time(clock):
        return [-1]
    return fraction_answer(true_time(gauge.watch_checks, clock))


def answer_zero(gauge, clock):
    if not is_time(clock):
        return [-1]
    return fraction_answer(zero_at(gauge.zero_checks, clock))


def is_time(number):
    return -TIME_BOUND <= number <= TIME_BOUND


def true_time(checks, clock):
    """The true time of the clock, as a fraction."""
    if len(checks) == 0:
        return (clock, 1)
    first = checks[0]
    if clock <= first[0]:
        return (clock + first[1] - first[0], 1)
    last = checks[-1]
    if clock >= last[0]:
        return (clock + last[1] - last[0], 1)
    return between_checks(checks, clock)


def zero_at(checks, clock):
    """The zero at the clock, as a fraction."""
    if len(checks) == 0:
        return (0, 1)
    first = checks[0]
    if clock <= first[0]:
        return (first[1], 1)
    last = checks[-1]
    if clock >= last[0]:
        return (last[1], 1)
    return between_checks(checks, clock)


def between_checks(checks, clock):
    """The value on the line of the two checks round the clock, which lies between the first and the last."""
    k = 1
    while checks[k][0] < clock:
        k += 1
    return on_line(checks[k - 1], checks[k], clock)


def on_line(before, behind, clock):
    span = behind[0] - before[0]
    top = before[1] * span + (clock - before[0]) * (behind[1] - before[1])
    return (top, span)


def fraction_answer(fraction):
    """Told: the whole number not above it, and what's over in lowest terms."""
    bottom = fraction[1]
    whole = fraction[0] // bottom
    over = fraction[0] % bottom
    common = common_divisor(over, bottom)
    return [0, whole, over // common, bottom // common]


def common_divisor(first, second):
    while second != 0:
        rest = first % second
        first = second
        second = rest
    return first


def kept_points(spike_size, points, watch_checks, zero_checks):
    """True time and true height, both as fractions, of each point that is no spike."""
    kept = []
    for k, point in enumerate(points):
        if not is_spike(points, k, spike_size):
            zero = zero_at(zero_checks, point[0])
            height = (point[1] * zero[1] + zero[0], zero[1])
            kept.append((true_time(watch_checks, point[0]), height))
    return kept


def answer_at(gauge, moment):
    if not is_time(moment):
        return [-1]
    height = height_at(gauge, moment)
    if height is None:
        return [0]
    return [1, height]


def answer_row(gauge, start, step, count):
    if count > MOST_HEIGHTS or step == 0 or not is_time(start):
        return [-1]
    if count > 0 and not is_time(start + (count - 1) * step):
        return [-1]
    return rows_answer([height_at(gauge, start + k * step) for k in range(count)])


def rows_answer(heights):
    """How many heights are there, how many rows follow, and each row with its length before it."""
    there = 0
    rows = []
    for height in heights:
        if height is None:
            rows.append(0)
        else:
            there += 1
            rows.extend([1, height])
    return [there, len(heights)] + rows


def height_at(gauge, moment):
    """The height told at the true time."""
    kept = gauge.kept
    k = first_not_before(kept, moment)
    if k == len(kept):
        return None
    behind = kept[k]
    if behind[0][0] == moment * behind[0][1]:
        return nearest(behind[1])
    if k == 0:
        return None
    before = kept[k - 1]
    span = time_span(before[0], behind[0])
    if span[0] > gauge.widest_gap * span[1]:
        return None
    return nearest(height_between(before, behind, moment))


def first_not_before(kept, moment):
    """The number of the first kept point whose time isn't before the moment, or how many there are."""
    # Times rise with clocks, so the points can be halved instead of walked.
    low = 0
    high = len(kept)
    while low < high:
        middle = (low + high) // 2
        time = kept[middle][0]
        if time[0] < moment * time[1]:
            low = middle + 1
        else:
            high = middle
    return low


def time_span(before, behind):
    return (behind[0] * before[1] - before[0] * behind[1], before[1] * behind[1])


def height_between(before, behind, moment):
    """The height on the line of two kept points, as a fraction."""
    gone = time_span(before[0], (moment, 1))
    left = time_span((moment, 1), behind[0])
    # Each height weighs as much as the time from the other point; both weights over one bottom, which falls out.
    before_weight = left[0] * gone[1]
    behind_weight = gone[0] * left[1]
    first = before[1]
    second = behind[1]
    top = first[0] * second[1] * before_weight + second[0] * first[1] * behind_weight
    return (top, first[1] * second[1] * (before_weight + behind_weight))


def nearest(fraction):
    """The nearest whole number, of two the greater."""
    return (2 * fraction[0] + fraction[1]) // (2 * fraction[1])


def answer_smooth(row, weights):
    heights = in_groups(row, 2)
    if len(heights) > MOST_HEIGHTS or len(weights) == 0 or len(weights) > MOST_WEIGHTS:
        return [-1]
    if max(weights) > WEIGHT_BOUND or max(weights) == 0:
        return [-1]
    for height in heights:
        if not is_height_in_form(height):
            return [-6]
    return rows_answer([smoothed(heights, weights, place) for place in range(len(heights))])


def is_height_in_form(height):
    if height[0] == 1:
        return -SMOOTH_BOUND <= height[1] <= SMOOTH_BOUND
    return height == (0, 0)


def smoothed(heights, weights, place):
    """The smoothed height at the place."""
    top = 0
    bottom = 0
    for shift in range(1 - len(weights), len(weights)):
        weight = weights[abs(shift)]
        if weight != 0:
            other = place + shift
            if other < 0 or other >= len(heights) or heights[other][0] == 0:
                return None
            top += weight * heights[other][1]
            bottom += weight
    return nearest((top, bottom))
