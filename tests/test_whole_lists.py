"""Whole lists of calls: against the reference, unchanged by the program, nothing kept between them."""

import random
import unittest

from anewcounts.counters import answers
from tests.asking import (BIG, anew, ask, begin, flat, gaps, list_of, most, out, rate, sample, samples, sum_of, top,
                          total, when)
from tests.reference import expected


def some_time(chance, latest):
    if chance.random() < 0.05:
        return chance.choice((0, 10 ** 6, 10 ** 6 + 1, 2 ** 63, BIG - 1, BIG))
    return chance.randint(0, latest)


def some_shows(chance, most):
    if chance.random() < 0.05:
        return chance.choice((0, 10 ** 9, 10 ** 9 + 1, 2 ** 63, BIG))
    return chance.randint(0, most)


def some_series(chance, series):
    if chance.random() < 0.04:
        return chance.choice((series, 7, 8, 2 ** 32, BIG))
    return chance.randint(0, series - 1)


def some_length(chance, latest):
    return chance.choice((some_time(chance, latest), chance.randint(0, 1 + latest // 5)))


def two_times(chance, latest):
    both = [some_time(chance, latest), some_time(chance, latest)]
    return sorted(both) if chance.random() < 0.8 else both


def some_call(chance, series, latest, greatest):
    number = chance.choice((2,) * 10 + (3, 4, 5, 6, 7, 8, 8, 9, 9, 10, 11, 12))
    which = some_series(chance, series)
    if number == 2:
        return sample(which, some_time(chance, latest), some_shows(chance, greatest))
    if number == 3:
        return out(which, some_time(chance, latest))
    if number in (7, 8):
        return (number, which, some_length(chance, latest))
    if number == 9:
        return when(which, some_time(chance, latest), some_shows(chance, 1 + greatest // chance.choice((1, 3))))
    if number == 10:
        many = chance.choice((0, 1, 2, 3, 9))
        return sum_of(*two_times(chance, latest), *[some_series(chance, series) for _ in range(many)])
    if number == 11:
        return top(chance.choice((0, 1, 2, 3, 8, BIG)), *two_times(chance, latest))
    if number == 12:
        return list_of(which)
    return (number, which, *two_times(chance, latest))


def some_calls(chance):
    series = chance.choice((1, 1, 2, 3, 8))
    latest = chance.choice((6, 20, 1000, 10 ** 6))
    greatest = chance.choice((2, 10, 10 ** 9))
    calls = [begin(series)] if series > 1 or chance.random() < 0.5 else []
    while len(calls) < 60:
        if chance.random() < 0.01:
            calls.append(begin(chance.choice((0, series, 9, BIG))))
        calls.append(some_call(chance, series, latest, greatest))
    return calls[:chance.choice((1, 30, 60, 60, 60))]


class Unchanging(list):
    """A list that refuses every change, also one that is taken back later."""

    def refuse(self, *given, **named):
        raise AssertionError("what is handed in is not changed")

    __setitem__ = __delitem__ = __iadd__ = __imul__ = refuse
    append = extend = insert = pop = remove = clear = sort = reverse = refuse


class WholeLists(unittest.TestCase):
    def test_as_the_reference_has_it(self):
        chance = random.Random(5)
        for _ in range(3000):
            calls = some_calls(chance)
            self.assertEqual(ask(calls), expected(calls), calls)

    def test_numbers_of_every_size_at_every_place(self):
        chance = random.Random(6)
        sizes = (0, 1, 2, 5, 8, 9, 10 ** 6, 10 ** 6 + 1, 10 ** 9, 10 ** 9 + 1, 2 ** 63, BIG)
        behind = {1: 1, 2: 3, 3: 2, 4: 3, 5: 3, 6: 3, 7: 2, 8: 2, 9: 3, 10: 2, 11: 3, 12: 1}
        for _ in range(1500):
            calls = []
            for _ in range(60):
                number = chance.choice((2, 2, chance.randint(1 if chance.random() < 0.1 else 2, 12)))
                first = chance.choice((0, 0, 0, chance.choice(sizes)))
                call = (number, first) + tuple(chance.choice(sizes) for _ in range(behind[number] - 1))
                if number == 10:
                    some = chance.choices((0, 0, 0, chance.choice(sizes)), k=chance.choice((0, 1, 2, 5)))
                    call = sum_of(*call[1:], *some)
                calls.append(call)
            self.assertEqual(ask(calls), expected(calls), calls)

    def test_all_twelve_among_them(self):
        chance = random.Random(8)
        met = 0
        while met < 300:
            calls = some_calls(chance)
            if len(calls) == 60 and len({call[0] for call in calls}) == 12:
                met += 1
                self.assertEqual(ask(calls), expected(calls), calls)

    def test_eight_series_that_are_known(self):
        chance = random.Random(11)
        for _ in range(500):
            greatest = chance.choice((1, 3, 10 ** 9))
            latest = chance.choice((4, 100, 10 ** 6))
            calls = [begin(8)]
            for series in range(8):
                calls += samples(series, *[(time, chance.randint(0, greatest)) for time in (latest, 0)])
                calls.append(sample(series, chance.randint(1, latest - 1), chance.randint(0, greatest)))
            while len(calls) < 60:
                a, b = two_times(chance, latest)
                calls.append(top(chance.choice((0, 1, 4, 7, 8, 9)), a, b))
                calls.append(sum_of(a, b, *chance.choices(range(8), k=chance.choice((1, 8, 20)))))
            self.assertEqual(ask(calls[:60]), expected(calls[:60]), calls)

    def test_sixteen_thousand_numbers(self):
        calls = [begin(2)] + samples(0, (0, 0), (3, 1)) + samples(1, (0, 0), (7, 2))
        calls += [sum_of(0, 1, *[chosen % 2 for chosen in range(1024)]) for _ in range(15)]
        calls.append(sum_of(0, 1, *[1] * 558))
        self.assertEqual(len(flat(calls)), 16000)
        self.assertEqual(ask(calls)[5:], [[512 * 13, 21]] * 15 + [[1116, 7]])

    def test_sixty_calls(self):
        calls = [sample(0, 1000 * k, 10 ** 9 - k % 2) for k in range(56)]
        calls += [total(0, 0, 55000), rate(0, 0, 55000), anew(0, 0, BIG), out(0, 0)]
        self.assertEqual(ask(calls)[-4:], [[28 * (10 ** 9 - 1) + 27, 1], [28 * 10 ** 9 - 1, 55000], [28], [55]])

    def test_sixty_calls_with_the_later_ones(self):
        calls = [sample(0, 1000 * k, 10 ** 9 - k % 2) for k in range(50)]
        calls += [gaps(0, 999), gaps(0, 1000), most(0, 1000), most(0, 1001), when(0, 0, 10 ** 9), when(0, 500, 1),
                  sum_of(0, 49000, 0, 0), top(1, 0, 49000), list_of(0), out(0, 0)]
        found = ask(calls)[50:]
        pairs = [(1000 * k, 10 ** 9 - k % 2) for k in range(50)]
        whole = 25 * (10 ** 9 - 1) + 24
        self.assertEqual(found[0], [49] + [time for k in range(49) for time in (1000 * k, 1000 * k + 1000)])
        self.assertEqual(found[1:4], [[0], [0, 10 ** 9 - 1, 1], [0, 10 ** 12 - 999, 1000]])
        self.assertEqual(found[4:6], [[2000, 1], [500 * (10 ** 9 - 1) + 1000, 10 ** 9 - 1]])
        self.assertEqual(found[6:8], [[2 * whole, 1], [1, 0, whole, 1]])
        self.assertEqual(found[8:], [[50] + [number for pair in pairs for number in pair], [49]])


class HandedIn(unittest.TestCase):
    CALLS = flat([begin(2)] + samples(1, (30, 2), (10, 7), (30, 2), (30, 3))
                 + [total(1, 11, 20), rate(1, 10, 30), anew(1, 0, 99), gaps(1, 3), most(1, 7), when(1, 11, 1),
                    sum_of(10, 13, 1, 1), sum_of(1, 2, 0, 1), top(2, 10, 13), list_of(1),
                    out(1, 30), total(1, 10, 30), list_of(1)])

    def test_the_list_is_as_it_was(self):
        calls = list(self.CALLS)
        answers(calls)
        self.assertEqual(calls, self.CALLS)

    def test_it_is_not_changed_for_a_while_either(self):
        self.assertEqual(answers(Unchanging(self.CALLS)), answers(list(self.CALLS)))

    def test_what_is_given_back_is_another_list_each_time(self):
        calls = list(self.CALLS)
        first = answers(calls)
        wanted = list(first)
        first.clear()
        self.assertEqual(answers(calls), wanted)
        self.assertEqual(calls, self.CALLS)


class NothingIsKept(unittest.TestCase):
    def test_asking_twice(self):
        chance = random.Random(7)
        lists = [flat(some_calls(chance)) for _ in range(100)]
        first = [answers(calls) for calls in lists]
        again = [answers(calls) for calls in reversed(lists)]
        self.assertEqual(first, again[::-1])

    def test_each_list_has_a_house_of_its_own(self):
        answers(flat([begin(8), sample(0, 5, 5), sample(7, 5, 5)]))
        answers(flat([sample(0, 5, 5)]))
        self.assertEqual(ask([out(0, 5), sample(0, 5, 6), sample(1, 5, 5)]), [[-3], [1], [-2]])


if __name__ == "__main__":
    unittest.main()
