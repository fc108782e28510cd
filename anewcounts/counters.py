"""The calls on one house, and what they answer.

A series is a dict from a sample's time to what the counter showed then. A call
answers a list of whole numbers; a refusal is one number below 0 alone.
"""

MOST_SERIES = 8
MOST_SAMPLES = 60
LATEST_TIME = 1000000
MOST_SHOWN = 1000000000

# By a call's number: how many whole numbers stand behind it. Of sum_of the third is its list's length.
NUMBERS_BEHIND = {1: 1, 2: 3, 3: 2, 4: 3, 5: 3, 6: 3, 7: 2, 8: 2, 9: 3, 10: 3, 11: 3, 12: 1}


class House:
    """The series that one list of calls is about."""

    def __init__(self):
        self.series = [{}]


def lacks(house, series):
    """Whether there is no such series."""
    return series >= len(house.series)


def neighbours(samples):
    """Each sample with the next one, a sample being (time, shows)."""
    by_time = sorted(samples.items())
    return list(zip(by_time, by_time[1:]))


def began_anew(before, after):
    """Whether the counter began anew from a sample to the next."""
    return after[1] < before[1]


def counted_between(before, after):
    """What was counted at the least from a sample to the next."""
    if began_anew(before, after):
        return after[1]
    return after[1] - before[1]


def counted_up_to(samples, time):
    """What's been counted up to a time as (upper, lower), None if it isn't known."""
    if len(samples) == 0 or time < min(samples) or time > max(samples):
        return None
    whole = 0
    for before, after in neighbours(samples):
        step = counted_between(before, after)
        if time < after[0]:
            apart = after[0] - before[0]
            return (whole * apart + step * (time - before[0]), apart)
        whole = whole + step
    return (whole, 1)


def total_between(samples, a, b):
    """The total from a to b as (upper, lower), None if it isn't known."""
    to_a = counted_up_to(samples, a)
    to_b = counted_up_to(samples, b)
    if to_a is None or to_b is None:
        return None
    return (to_b[0] * to_a[1] - to_a[0] * to_b[1], to_a[1] * to_b[1])


def earliest_time(samples, upper, lower):
    """The earliest time up to which upper / lower, above 0, has been counted, as (upper, lower).

    None if so much wasn't counted.
    """
    missing = upper
    for before, after in neighbours(samples):
        step = counted_between(before, after) * lower
        # Something is always missing here, so a step that reaches it isn't 0.
        if missing <= step:
            return (before[0] * step + missing * (after[0] - before[0]), step)
        missing = missing - step
    return None


def exceeds(one, other):
    """Whether one (upper, lower) is greater than another."""
    return one[0] * other[1] > other[0] * one[1]


def ranked_totals(house, a, b):
    """The known totals from a to b as (series, total), the greatest first, of as great ones the lesser series."""
    ranked = []
    for number, samples in enumerate(house.series):
        found = total_between(samples, a, b)
        if found is not None:
            at = 0
            while at < len(ranked) and not exceeds(found, ranked[at][1]):
                at = at + 1
            ranked.insert(at, (number, found))
    return ranked


def lowest_terms(upper, lower):
    """A fraction as it is told: its upper number, then its lower one."""
    common = upper
    rest = lower
    while rest > 0:
        left = common % rest
        common = rest
        rest = left
    return [upper // common, lower // common]


def begin(house, series):
    if series < 1 or series > MOST_SERIES:
        return [-1]
    house.series = [{} for number in range(series)]
    return [0]


def sample(house, series, time, shows):
    if lacks(house, series):
        return [-2]
    if time > LATEST_TIME or shows > MOST_SHOWN:
        return [-1]
    samples = house.series[series]
    if time in samples:
        return [len(samples)] if samples[time] == shows else [-4]
    if len(samples) >= MOST_SAMPLES:
        return [-5]
    samples[time] = shows
    return [len(samples)]


def out(house, series, time):
    """Takes a sample out; answers how many are left."""
    if lacks(house, series):
        return [-2]
    samples = house.series[series]
    if time not in samples:
        return [-3]
    samples.pop(time)
    return [len(samples)]


def total(house, series, a, b):
    if lacks(house, series):
        return [-2]
    if b < a:
        return [-1]
    found = total_between(house.series[series], a, b)
    if found is None:
        return [-3]
    return lowest_terms(found[0], found[1])


def rate(house, series, a, b):
    if lacks(house, series):
        return [-2]
    if b <= a:
        return [-1]
    found = total_between(house.series[series], a, b)
    if found is None:
        return [-3]
    return lowest_terms(found[0], found[1] * (b - a))


def anew(house, series, a, b):
    if lacks(house, series):
        return [-2]
    if b < a:
        return [-1]
    often = 0
    for before, after in neighbours(house.series[series]):
        if a <= before[0] and after[0] <= b and began_anew(before, after):
            often = often + 1
    return [often]


def gaps(house, series, g):
    if lacks(house, series):
        return [-2]
    many = 0
    times = []
    for before, after in neighbours(house.series[series]):
        if after[0] - before[0] > g:
            many = many + 1
            times.extend([before[0], after[0]])
    return [many] + times


def most(house, series, w):
    if lacks(house, series):
        return [-2]
    if w == 0:
        return [-1]
    samples = house.series[series]
    begins = 0
    greatest = None
    # By their times, so that of windows as great the first one stays.
    for t in sorted(list(samples) + [time - w for time in samples]):
        found = total_between(samples, t, t + w)
        if found is not None and (greatest is None or exceeds(found, greatest)):
            begins = t
            greatest = found
    if greatest is None:
        return [-3]
    return [begins] + lowest_terms(greatest[0], greatest[1])


def when(house, series, a, x):
    if lacks(house, series):
        return [-2]
    samples = house.series[series]
    to_a = counted_up_to(samples, a)
    if to_a is None:
        return [-3]
    if x == 0:
        return [a, 1]
    found = earliest_time(samples, to_a[0] + x * to_a[1], to_a[1])
    if found is None:
        return [-6]
    return lowest_terms(found[0], found[1])


def sum_of(house, a, b, some):
    if b < a:
        return [-1]
    if any([lacks(house, series) for series in some]):
        return [-2]
    upper = 0
    lower = 1
    for series, samples in enumerate(house.series):
        often = some.count(series)
        if often > 0:
            found = total_between(samples, a, b)
            if found is None:
                return [-3]
            upper = upper * found[1] + often * found[0] * lower
            lower = lower * found[1]
    return lowest_terms(upper, lower)


def top(house, n, a, b):
    if b < a:
        return [-1]
    ranked = ranked_totals(house, a, b)
    many = min(n, len(ranked))
    told = [many]
    for series, found in ranked[:many]:
        told.append(series)
        told.extend(lowest_terms(found[0], found[1]))
    return told


def list_of(house, series):
    if lacks(house, series):
        return [-2]
    samples = house.series[series]
    told = [len(samples)]
    for time, shows in sorted(samples.items()):
        told.extend([time, shows])
    return told


def answer_call(house, call):
    """What one call answers; call is its number and all that stands behind it."""
    if call[0] == 1:
        return begin(house, call[1])
    if call[0] == 2:
        return sample(house, call[1], call[2], call[3])
    if call[0] == 3:
        return out(house, call[1], call[2])
    if call[0] == 4:
        return total(house, call[1], call[2], call[3])
    if call[0] == 5:
        return rate(house, call[1], call[2], call[3])
    if call[0] == 6:
        return anew(house, call[1], call[2], call[3])
    if call[0] == 7:
        return gaps(house, call[1], call[2])
    if call[0] == 8:
        return most(house, call[1], call[2])
    if call[0] == 9:
        return when(house, call[1], call[2], call[3])
    if call[0] == 10:
        return sum_of(house, call[1], call[2], call[4:])
    if call[0] == 11:
        return top(house, call[1], call[2], call[3])
    return list_of(house, call[1])


def end_of_call(calls, at):
    """Where the call ends that begins at a place of the list."""
    end = at + 1 + NUMBERS_BEHIND[calls[at]]
    if calls[at] == 10:
        return end + calls[at + 3]
    return end


def answers(calls):
    """For each call how many numbers are answered, then these."""
    house = House()
    told = []
    at = 0
    while at < len(calls):
        end = end_of_call(calls, at)
        answered = answer_call(house, calls[at:end])
        told.append(len(answered))
        told.extend(answered)
        at = end
    return told
