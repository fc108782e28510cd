"""The document's words once more, in another form, to hold the program against."""

from fractions import Fraction


def grown(earlier, later):
    return later if later < earlier else later - earlier


class Reference:
    def __init__(self):
        self.series = [[]]
        self.by_number = {1: self.begin, 2: self.sample, 3: self.out,
                          4: self.total, 5: self.rate, 6: self.anew}

    def begin(self, series):
        if series not in range(1, 9):
            return [-1]
        self.series = [[] for _ in range(series)]
        return [0]

    def sample(self, series, time, shows):
        if series not in range(len(self.series)):
            return [-2]
        if time > 10 ** 6 or shows > 10 ** 9:
            return [-1]
        here = self.series[series]
        if any(t == time and s != shows for t, s in here):
            return [-4]
        if (time, shows) not in here:
            if len(here) == 60:
                return [-5]
            here.append((time, shows))
            here.sort()
        return [len(here)]

    def out(self, series, time):
        if series not in range(len(self.series)):
            return [-2]
        left = [pair for pair in self.series[series] if pair[0] != time]
        if len(left) == len(self.series[series]):
            return [-3]
        self.series[series] = left
        return [len(left)]

    def steps(self, series):
        here = self.series[series]
        return [(here[k], here[k + 1]) for k in range(len(here) - 1)]

    def fraction_between(self, series, a, b):
        """Adds up, pair by pair, the share of its step that lies from a to b."""
        here = self.series[series]
        if not here or a < here[0][0] or b > here[-1][0]:
            return None
        found = Fraction(0)
        for (t, s), (u, v) in self.steps(series):
            within = min(b, u) - max(a, t)
            if within > 0:
                found += Fraction(grown(s, v) * within, u - t)
        return found

    def total(self, series, a, b):
        if series not in range(len(self.series)):
            return [-2]
        if b < a:
            return [-1]
        found = self.fraction_between(series, a, b)
        return [-3] if found is None else [found.numerator, found.denominator]

    def rate(self, series, a, b):
        if series not in range(len(self.series)):
            return [-2]
        if b <= a:
            return [-1]
        found = self.fraction_between(series, a, b)
        if found is None:
            return [-3]
        found = found / (b - a)
        return [found.numerator, found.denominator]

    def anew(self, series, a, b):
        if series not in range(len(self.series)):
            return [-2]
        if b < a:
            return [-1]
        return [len([1 for (t, s), (u, v) in self.steps(series) if v < s and t >= a and u <= b])]


def expected(calls):
    """One list for each call."""
    house = Reference()
    return [house.by_number[call[0]](*call[1:]) for call in calls]
