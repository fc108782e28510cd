"""The document's words once more, in another form, to hold the program against."""

from fractions import Fraction


def grown(earlier, later):
    return later if later < earlier else later - earlier


class Reference:
    def __init__(self):
        self.series = [[]]
        self.by_number = {1: self.begin, 2: self.sample, 3: self.out,
                          4: self.total, 5: self.rate, 6: self.anew,
                          7: self.gaps, 8: self.most, 9: self.when,
                          10: self.sum_of, 11: self.top, 12: self.list_of}

    def begin(self, series):
        if series not in range(1, 9):
            return [-1]
        self.series = [[] for _ in range(series)]
        return [0]

    def sample(self, series, time, shows):
        if series not in range(len(self.series)):
            return [-2]
        if time > 10 ** 6 or shows > 10 ** 9:
            return [-1]
        here = self.series[series]
        if any(t == time and s != shows for t, s in here):
            return [-4]
        if (time, shows) not in here:
            if len(here) == 60:
                return [-5]
            here.append((time, shows))
            here.sort()
        return [len(here)]

    def out(self, series, time):
        if series not in range(len(self.series)):
            return [-2]
        left = [pair for pair in self.series[series] if pair[0] != time]
        if len(left) == len(self.series[series]):
            return [-3]
        self.series[series] = left
        return [len(left)]

    def steps(self, series):
        here = self.series[series]
        return [(here[k], here[k + 1]) for k in range(len(here) - 1)]

    def fraction_between(self, series, a, b):
        """Adds up, pair by pair, the share of its step that lies from a to b."""
        here = self.series[series]
        if not here or a < here[0][0] or b > here[-1][0]:
            return None
        found = Fraction(0)
        for (t, s), (u, v) in self.steps(series):
            within = min(b, u) - max(a, t)
            if within > 0:
                found += Fraction(grown(s, v) * within, u - t)
        return found

    def total(self, series, a, b):
        if series not in range(len(self.series)):
            return [-2]
        if b < a:
            return [-1]
        found = self.fraction_between(series, a, b)
        return [-3] if found is None else [found.numerator, found.denominator]

    def rate(self, series, a, b):
        if series not in range(len(self.series)):
            return [-2]
        if b <= a:
            return [-1]
        found = self.fraction_between(series, a, b)
        if found is None:
            return [-3]
        found = found / (b - a)
        return [found.numerator, found.denominator]

    def anew(self, series, a, b):
        if series not in range(len(self.series)):
            return [-2]
        if b < a:
            return [-1]
        return [len([1 for (t, s), (u, v) in self.steps(series) if v < s and t >= a and u <= b])]

    def gaps(self, series, g):
        if series not in range(len(self.series)):
            return [-2]
        found = [(t, u) for (t, s), (u, v) in self.steps(series) if t + g < u]
        return [len(found)] + [time for both in found for time in both]

    def most(self, series, w):
        if series not in range(len(self.series)):
            return [-2]
        if w < 1:
            return [-1]
        times = {t for t, s in self.series[series]}
        windows = [(self.fraction_between(series, t, t + w), -t) for t in times | {t - w for t in times}]
        windows = [window for window in windows if window[0] is not None]
        if not windows:
            return [-3]
        greatest, t = max(windows)
        return [-t, greatest.numerator, greatest.denominator]

    def when(self, series, a, x):
        if series not in range(len(self.series)):
            return [-2]
        if self.fraction_between(series, a, a) is None:
            return [-3]
        if x == 0:
            return [a, 1]
        first = self.series[series][0][0]
        wanted = self.fraction_between(series, first, a) + x
        reached = []
        for (t, s), (u, v) in self.steps(series):
            if grown(s, v) > 0:
                time = t + (wanted - self.fraction_between(series, first, t)) * (u - t) / grown(s, v)
                if t <= time <= u:
                    reached.append(time)
        return [min(reached).numerator, min(reached).denominator] if reached else [-6]

    def sum_of(self, a, b, many, *some):
        if b < a:
            return [-1]
        if any(series not in range(len(self.series)) for series in some):
            return [-2]
        known = [self.fraction_between(series, a, b) for series in range(len(self.series))]
        totals = [known[series] for series in some]
        if None in totals:
            return [-3]
        found = sum(totals, Fraction(0))
        return [found.numerator, found.denominator]

    def top(self, n, a, b):
        if b < a:
            return [-1]
        totals = [(self.fraction_between(series, a, b), series) for series in range(len(self.series))]
        known = sorted((-found, series) for found, series in totals if found is not None)[:n]
        return [len(known)] + [number for found, series in known
                               for number in (series, -found.numerator, found.denominator)]

    def list_of(self, series):
        if series not in range(len(self.series)):
            return [-2]
        return [len(self.series[series])] + [number for pair in self.series[series] for number in pair]


def expected(calls):
    """One list for each call."""
    house = Reference()
    return [house.by_number[call[0]](*call[1:]) for call in calls]
