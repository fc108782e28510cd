"""How the tests ask: calls as tuples, answers as one list for each call."""

from anewcounts.counters import answers

BIG = 2 ** 64 - 1


def begin(series):
    return (1, series)


def sample(series, time, shows):
    return (2, series, time, shows)


def out(series, time):
    return (3, series, time)


def total(series, a, b):
    return (4, series, a, b)


def rate(series, a, b):
    return (5, series, a, b)


def anew(series, a, b):
    return (6, series, a, b)


def gaps(series, g):
    return (7, series, g)


def most(series, w):
    return (8, series, w)


def when(series, a, x):
    return (9, series, a, x)


def sum_of(a, b, *some):
    return (10, a, b, len(some)) + some


def top(n, a, b):
    return (11, n, a, b)


def list_of(series):
    return (12, series)


def samples(series, *pairs):
    return [sample(series, time, shows) for time, shows in pairs]


def flat(calls):
    return [number for call in calls for number in call]


def apart(told):
    """The list that is given back, cut into one list for each call."""
    found = []
    at = 0
    while at < len(told):
        end = at + 1 + told[at]
        if told[at] < 1 or end > len(told):
            raise AssertionError(f"a wrong count at {at} of {told}")
        found.append(told[at + 1:end])
        at = end
    return found


def ask(calls):
    """One list for each call; calls are at most 60, as the document has it."""
    if not 1 <= len(calls) <= 60:
        raise AssertionError("a test hands in 1 to 60 calls")
    handed = flat(calls)
    if len(handed) > 16000:
        raise AssertionError("a test hands in at most 16000 numbers")
    told = answers(handed)
    if type(told) is not list or any(type(number) is not int for number in told):
        raise AssertionError(f"not a list of whole numbers: {told}")
    found = apart(told)
    if len(found) != len(calls):
        raise AssertionError(f"{len(calls)} calls, {len(found)} answers")
    return found


def last(calls):
    return ask(calls)[-1]
