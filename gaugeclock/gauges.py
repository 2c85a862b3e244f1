"""Gauges: what the pen drew by a clock, put right by what an attendant looked at.

A fraction is a pair (top, bottom) of whole numbers, the bottom above 0.
A check is a pair (clock, value): of a watch check the true time, of a staff check the zero.
"""

# Times lie from -2^36 to 2^36, heights from -1,000,000 to 1,000,000.
TIME_BOUND = 68719476736
HEIGHT_BOUND = 1000000

# How far off a spike is and how wide a gap may be are both below 2^32.
SETTING_END = 4294967296

MOST_POINTS = 256
MOST_CHECKS = 32

# By a call's number: how many whole numbers it has, and how many rows behind these.
NUMBERS_OF_CALL = (2, 0, 1, 1, 1, 3, 0)
ROWS_OF_CALL = (3, 0, 0, 0, 0, 0, 2)


class Reader:
    """A place in the list of calls; the list itself is only read."""

    def __init__(self, numbers):
        self.numbers = numbers
        self.place = 0

    def is_done(self):
        return self.place >= len(self.numbers)

    def take_number(self):
        number = self.numbers[self.place]
        self.place += 1
        return number

    def take_row(self):
        length = self.take_number()
        row = self.numbers[self.place:self.place + length]
        self.place += length
        return row


class Gauge:
    """A gauge in form: points (clock, pen), and checks (clock, value)."""

    def __init__(self, spike_size, widest_gap, points, watch_checks, zero_checks):
        self.spike_size = spike_size
        self.widest_gap = widest_gap
        self.points = points
        self.watch_checks = watch_checks
        self.zero_checks = zero_checks


class Recorder:
    """The object that the calls are on: new, it has no gauge."""

    def __init__(self):
        self.gauge = None


def answers(calls):
    """Answer the calls, one behind another, on one new object."""
    reader = Reader(calls)
    recorder = Recorder()
    told = []
    while not reader.is_done():
        call = reader.take_number()
        numbers = [reader.take_number() for count in range(NUMBERS_OF_CALL[call])]
        rows = [reader.take_row() for count in range(ROWS_OF_CALL[call])]
        answer = answer_call(recorder, call, numbers, rows)
        told.append(len(answer))
        told.extend(answer)
    return told


def answer_call(recorder, call, numbers, rows):
    if call == 0:
        return answer_gauge(recorder, numbers, rows)
    if call == 6:
        raise NotImplementedError("the call smooth")
    # Every other call needs a gauge, and this goes before its own refusals.
    if recorder.gauge is None:
        return [-3]
    if call == 1:
        return answer_spikes(recorder.gauge)
    if call == 2:
        return answer_time(recorder.gauge, numbers[0])
    if call == 3:
        return answer_zero(recorder.gauge, numbers[0])
    raise NotImplementedError("the calls at and row")


def answer_gauge(recorder, numbers, rows):
    points = in_groups(rows[0], 2)
    watch_checks = in_groups(rows[1], 2)
    staff_checks = in_groups(rows[2], 3)
    if len(points) > MOST_POINTS or len(watch_checks) > MOST_CHECKS or len(staff_checks) > MOST_CHECKS:
        return [-1]
    if numbers[0] >= SETTING_END or numbers[1] >= SETTING_END:
        return [-1]
    fault = form_fault(points, watch_checks, staff_checks)
    if fault is not None:
        return [-6, fault[0], fault[1]]
    zero_checks = [(clock, staff - pen) for clock, pen, staff in staff_checks]
    recorder.gauge = Gauge(numbers[0], numbers[1], points, watch_checks, zero_checks)
    return [0]


def in_groups(numbers, width):
    return [tuple(numbers[start:start + width]) for start in range(0, len(numbers), width)]


def form_fault(points, watch_checks, staff_checks):
    """Which list has the first fault and its number there, or None."""
    number = first_fault(points, (TIME_BOUND, HEIGHT_BOUND), 1)
    if number is not None:
        return (0, number)
    number = first_fault(watch_checks, (TIME_BOUND, TIME_BOUND), 2)
    if number is not None:
        return (1, number)
    number = first_fault(staff_checks, (TIME_BOUND, HEIGHT_BOUND, HEIGHT_BOUND), 1)
    if number is not None:
        return (2, number)
    return None


def first_fault(groups, bounds, rising):
    """The number of the first group out of bounds, or whose first values, rising many, don't rise; or None."""
    for number, group in enumerate(groups):
        if not in_bounds(group, bounds):
            return number
        if number > 0 and not rises(groups[number - 1], group, rising):
            return number
    return None


def in_bounds(group, bounds):
    for value, bound in zip(group, bounds):
        if value < -bound or value > bound:
            return False
    return True


def rises(before, behind, rising):
    for column in range(rising):
        if behind[column] <= before[column]:
            return False
    return True


def answer_spikes(gauge):
    numbers = [k for k in range(len(gauge.points)) if is_spike(gauge, k)]
    return [0, len(numbers)] + numbers


def is_spike(gauge, k):
    points = gauge.points
    # The first and the last point have a neighbour on one side alone.
    if k == 0 or k == len(points) - 1:
        return False
    from_before = points[k][1] - points[k - 1][1]
    from_behind = points[k][1] - points[k + 1][1]
    if from_before > gauge.spike_size and from_behind > gauge.spike_size:
        return True
    return -from_before > gauge.spike_size and -from_behind > gauge.spike_size


def answer_time(gauge, clock):
    if not is_time(clock):
        return [-1]
    return fraction_answer(true_time(gauge.watch_checks, clock))


def answer_zero(gauge, clock):
    if not is_time(clock):
        return [-1]
    return fraction_answer(zero_at(gauge.zero_checks, clock))


def is_time(clock):
    return -TIME_BOUND <= clock <= TIME_BOUND


def true_time(checks, clock):
    """The true time of the clock, as a fraction."""
    if len(checks) == 0:
        return (clock, 1)
    first = checks[0]
    if clock <= first[0]:
        return (clock + first[1] - first[0], 1)
    last = checks[-1]
    if clock >= last[0]:
        return (clock + last[1] - last[0], 1)
    return between_checks(checks, clock)


def zero_at(checks, clock):
    """The zero at the clock, as a fraction."""
    if len(checks) == 0:
        return (0, 1)
    first = checks[0]
    if clock <= first[0]:
        return (first[1], 1)
    last = checks[-1]
    if clock >= last[0]:
        return (last[1], 1)
    return between_checks(checks, clock)


def between_checks(checks, clock):
    """The value on the line of the two checks round the clock, which lies between the first and the last."""
    k = 1
    while checks[k][0] < clock:
        k += 1
    return on_line(checks[k - 1], checks[k], clock)


def on_line(before, behind, clock):
    span = behind[0] - before[0]
    top = before[1] * span + (clock - before[0]) * (behind[1] - before[1])
    return (top, span)


def fraction_answer(fraction):
    """Told: the whole number not above it, and what's over in lowest terms."""
    bottom = fraction[1]
    whole = fraction[0] // bottom
    over = fraction[0] % bottom
    common = common_divisor(over, bottom)
    return [0, whole, over // common, bottom // common]


def common_divisor(first, second):
    while second != 0:
        rest = first % second
        first = second
        second = rest
    return first
