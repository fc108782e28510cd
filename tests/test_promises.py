"""The promises: the least, more samples, pieces of the whole, the greatest window, the earliest time."""

import random
import unittest
from fractions import Fraction
from itertools import product

from tests.asking import ask, last, most, samples, total, when


def told_total(pairs):
    """The total from the first sample to the last."""
    times = [time for time, shows in pairs]
    upper, lower = last(samples(0, *pairs) + [total(0, min(times), max(times))])
    return Fraction(upper, lower)


def least_counted(start, end):
    """The least counting that leads from one shown number to another.

    Every way of counting one more and beginning anew is tried, by how much each has counted.
    """
    reached = {start, 0}
    counted = 0
    while end not in reached:
        reached = {shows + 1 for shows in reached} | {0}
        counted += 1
    return counted


def made_up(chance, looks, most, beginnings):
    """A counter that counts and begins anew unseen: its samples, and what it truly counted between them."""
    shows = chance.randint(0, most)
    time = chance.randint(0, 50)
    pairs = [(time, shows)]
    counted = 0
    for _ in range(looks):
        for _ in range(chance.randint(0, beginnings)):
            more = chance.randint(0, most)
            counted += more
            shows = 0 if chance.random() < 0.5 else shows + more
        time += chance.randint(1, 50)
        pairs.append((time, shows))
    return pairs, counted


def just_so_much(pairs):
    """A counter that runs through the samples, beginning anew where it must: what it shows, what it counted."""
    shows = pairs[0][1]
    counted = 0
    seen = [(pairs[0][0], shows)]
    for time, wanted in pairs[1:]:
        if shows > wanted:
            shows = 0
        while shows < wanted:
            shows += 1
            counted += 1
        seen.append((time, shows))
    return seen, counted


def some_pairs(chance, many, latest, most):
    times = sorted(chance.sample(range(latest + 1), many))
    return [(time, chance.randint(0, most)) for time in times]


def whole_times(pairs):
    """Every whole time from the first sample to the last."""
    times = [time for time, shows in pairs]
    return range(min(times), max(times) + 1)


def asked_on(pairs, calls):
    """What each of many calls answers on a series with these samples, in lists of at most 60 calls."""
    held = samples(0, *pairs)
    room = 60 - len(held)
    found = []
    for start in range(0, len(calls), room):
        found += ask(held + calls[start:start + room])[len(held):]
    return found


def totals_on(pairs, spans):
    return [Fraction(upper, lower) for upper, lower in asked_on(pairs, [total(0, a, b) for a, b in spans])]


class TheLeast(unittest.TestCase):
    def test_of_all_ways_of_counting(self):
        for many in (2, 3, 4):
            for shown in product(range(4), repeat=many):
                pairs = [(3 * k + 1, shows) for k, shows in enumerate(shown)]
                least = sum(least_counted(shown[k], shown[k + 1]) for k in range(many - 1))
                self.assertEqual(told_total(pairs), least, pairs)

    def test_no_less_was_counted(self):
        chance = random.Random(1)
        for _ in range(300):
            pairs, counted = made_up(chance, chance.randint(1, 30), chance.choice((1, 5, 10 ** 6)), 6)
            chance.shuffle(pairs)
            self.assertLessEqual(told_total(pairs), counted, pairs)

    def test_just_so_much_may_have_been(self):
        chance = random.Random(2)
        for _ in range(200):
            pairs = some_pairs(chance, chance.randint(2, 40), 500, chance.choice((1, 5, 200)))
            seen, counted = just_so_much(pairs)
            self.assertEqual(seen, pairs)
            self.assertEqual(told_total(pairs), counted, pairs)


class OneMoreSample(unittest.TestCase):
    def check(self, pairs, more):
        self.assertGreaterEqual(told_total(pairs + [more]), told_total(pairs), (pairs, more))

    def test_small_ones_all(self):
        for shown in product(range(4), repeat=3):
            pairs = [(0, shown[0]), (4, shown[1]), (8, shown[2])]
            for time in (1, 6):
                for shows in range(5):
                    self.check(pairs, (time, shows))

    def test_others(self):
        chance = random.Random(3)
        for _ in range(300):
            pairs = some_pairs(chance, chance.randint(2, 50), 10 ** 6, chance.choice((3, 1000, 10 ** 9)))
            held = dict(pairs)
            time = chance.randint(pairs[0][0], pairs[-1][0])
            if time not in held:
                self.check(pairs, (time, chance.choice((0, 10 ** 9, chance.randint(0, 1000)))))


class PiecesMakeTheWhole(unittest.TestCase):
    def check(self, pairs, a, b, c):
        found = ask(samples(0, *pairs) + [total(0, a, b), total(0, b, c), total(0, a, c)])
        first, second, whole = [Fraction(upper, lower) for upper, lower in found[-3:]]
        self.assertEqual(first + second, whole, (pairs, a, b, c))
        self.assertGreaterEqual(min(first, second), 0)

    def test_all_times_of_a_short_one(self):
        pairs = [(2, 5), (5, 1), (9, 8), (12, 8), (14, 0)]
        for a in range(2, 15):
            for b in range(a, 15):
                for c in range(b, 15):
                    self.check(pairs, a, b, c)

    def test_all_three_between_the_same_two(self):
        self.check([(0, 10), (7, 3), (1000, 10 ** 9)], 8, 501, 999)
        self.check([(0, 10), (7, 3), (1000, 10 ** 9)], 1, 3, 6)

    def test_others(self):
        chance = random.Random(4)
        for _ in range(300):
            pairs = some_pairs(chance, chance.randint(2, 50), 10 ** 6, chance.choice((3, 1000, 10 ** 9)))
            a, b, c = sorted(chance.randint(pairs[0][0], pairs[-1][0]) for _ in range(3))
            self.check(pairs, a, b, c)


class NoGreaterWindow(unittest.TestCase):
    def check(self, pairs, w):
        t, upper, lower = last(samples(0, *pairs) + [most(0, w)])
        spans = [(start, start + w) for start in whole_times(pairs) if start + w in whole_times(pairs)]
        found = totals_on(pairs, spans)
        self.assertEqual(max(found), Fraction(upper, lower), (pairs, w))
        self.assertEqual(found[spans.index((t, t + w))], Fraction(upper, lower), (pairs, w))
        self.assertEqual((Fraction(upper, lower).numerator, Fraction(upper, lower).denominator), (upper, lower))

    def check_every_length(self, pairs):
        longest = len(whole_times(pairs)) - 1
        for w in range(1, longest + 1):
            self.check(pairs, w)
        self.assertEqual(asked_on(pairs, [most(0, longest + 1)]), [[-3]])

    def test_small_ones_all(self):
        for shown in product(range(4), repeat=4):
            self.check_every_length(list(zip((1, 2, 4, 7), shown)))

    def test_a_longer_one(self):
        self.check_every_length([(2, 5), (5, 1), (9, 8), (12, 8), (14, 0), (15, 6), (22, 90), (40, 91)])

    def test_others(self):
        chance = random.Random(9)
        for _ in range(150):
            latest = chance.choice((25, 100, 300))
            pairs = some_pairs(chance, chance.randint(2, 20), latest, chance.choice((3, 10 ** 9)))
            self.check(pairs, chance.randint(1, len(whole_times(pairs)) - 1))


class TheEarliestTime(unittest.TestCase):
    def check(self, pairs, a, x):
        """Holds when's time against what was counted up to each whole time."""
        answered = last(samples(0, *pairs) + [when(0, a, x)])
        times = whole_times(pairs)
        counted = totals_on(pairs, [(times[0], time) for time in times])
        wanted = counted[times.index(a)] + x
        if answered == [-6]:
            self.assertLess(counted[-1], wanted, (pairs, a, x))
            return
        found = Fraction(answered[0], answered[1])
        self.assertEqual([found.numerator, found.denominator], answered)
        self.assertTrue(a <= found <= times[-1], (pairs, a, x))
        for time, up_to in zip(times, counted):
            self.assertEqual(time >= found, up_to >= wanted, (pairs, a, x, time))

    def test_small_ones_all(self):
        for shown in product(range(3), repeat=4):
            pairs = list(zip((1, 2, 4, 7), shown))
            for a in range(1, 8):
                for x in range(1, 7):
                    self.check(pairs, a, x)

    def test_others(self):
        chance = random.Random(10)
        for _ in range(200):
            pairs = some_pairs(chance, chance.randint(2, 20), chance.choice((25, 100)), chance.choice((1, 9, 10 ** 9)))
            whole = int(told_total(pairs))
            a = chance.choice(whole_times(pairs))
            self.check(pairs, a, 1 + chance.randint(0, whole))
            self.check(pairs, a, 1)

    def test_nothing_more(self):
        # a itself is told, also where as much was counted up to times ahead of it.
        pairs = [(2, 5), (5, 1), (9, 8), (12, 8), (14, 0), (15, 6)]
        times = whole_times(pairs)
        counted = totals_on(pairs, [(2, time) for time in times])
        self.assertEqual(asked_on(pairs, [when(0, a, 0) for a in times]), [[a, 1] for a in times])
        self.assertEqual(counted, sorted(counted))
        for a in (2, 3, 5, 6, 9, 15):
            self.check(pairs, a, 0)


if __name__ == "__main__":
    unittest.main()
