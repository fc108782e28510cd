"""Whole lists of calls: against the reference, unchanged by the program, nothing kept between them."""

import random
import unittest

from anewcounts.counters import answers
from tests.asking import BIG, anew, ask, begin, flat, out, rate, sample, samples, total
from tests.reference import expected


def some_time(chance, latest):
    if chance.random() < 0.05:
        return chance.choice((0, 10 ** 6, 10 ** 6 + 1, 2 ** 63, BIG - 1, BIG))
    return chance.randint(0, latest)


def some_shows(chance, most):
    if chance.random() < 0.05:
        return chance.choice((0, 10 ** 9, 10 ** 9 + 1, 2 ** 63, BIG))
    return chance.randint(0, most)


def some_series(chance, series):
    if chance.random() < 0.04:
        return chance.choice((series, 7, 8, 2 ** 32, BIG))
    return chance.randint(0, series - 1)


def some_call(chance, series, latest, most):
    number = chance.choice((2, 2, 2, 2, 3, 4, 4, 5, 6))
    which = some_series(chance, series)
    if number == 2:
        return sample(which, some_time(chance, latest), some_shows(chance, most))
    if number == 3:
        return out(which, some_time(chance, latest))
    a = some_time(chance, latest)
    b = some_time(chance, latest)
    if chance.random() < 0.8:
        a, b = min(a, b), max(a, b)
    return (number, which, a, b)


def some_calls(chance):
    series = chance.choice((1, 1, 2, 3, 8))
    latest = chance.choice((6, 20, 1000, 10 ** 6))
    most = chance.choice((2, 10, 10 ** 9))
    calls = [begin(series)] if series > 1 or chance.random() < 0.5 else []
    while len(calls) < 60:
        if chance.random() < 0.01:
            calls.append(begin(chance.choice((0, series, 9, BIG))))
        calls.append(some_call(chance, series, latest, most))
    return calls[:chance.choice((1, 30, 60, 60, 60))]


class Unchanging(list):
    """A list that refuses every change, also one that is taken back later."""

    def refuse(self, *given, **named):
        raise AssertionError("what is handed in is not changed")

    __setitem__ = __delitem__ = __iadd__ = __imul__ = refuse
    append = extend = insert = pop = remove = clear = sort = reverse = refuse


class WholeLists(unittest.TestCase):
    def test_as_the_reference_has_it(self):
        chance = random.Random(5)
        for _ in range(3000):
            calls = some_calls(chance)
            self.assertEqual(ask(calls), expected(calls), calls)

    def test_numbers_of_every_size_at_every_place(self):
        chance = random.Random(6)
        sizes = (0, 1, 2, 5, 8, 9, 10 ** 6, 10 ** 6 + 1, 10 ** 9, 10 ** 9 + 1, 2 ** 63, BIG)
        behind = {1: 1, 2: 3, 3: 2, 4: 3, 5: 3, 6: 3}
        for _ in range(1000):
            calls = []
            for _ in range(60):
                number = chance.randint(1 if chance.random() < 0.1 else 2, 6)
                first = chance.choice((0, 0, 0, chance.choice(sizes)))
                calls.append((number, first) + tuple(chance.choice(sizes) for _ in range(behind[number] - 1)))
            self.assertEqual(ask(calls), expected(calls), calls)

    def test_sixty_calls(self):
        calls = [sample(0, 1000 * k, 10 ** 9 - k % 2) for k in range(56)]
        calls += [total(0, 0, 55000), rate(0, 0, 55000), anew(0, 0, BIG), out(0, 0)]
        self.assertEqual(ask(calls)[-4:], [[28 * (10 ** 9 - 1) + 27, 1], [28 * 10 ** 9 - 1, 55000], [28], [55]])


class HandedIn(unittest.TestCase):
    CALLS = flat([begin(2)] + samples(1, (30, 2), (10, 7), (30, 2), (30, 3))
                 + [total(1, 11, 20), rate(1, 10, 30), anew(1, 0, 99), out(1, 30), total(1, 10, 30)])

    def test_the_list_is_as_it_was(self):
        calls = list(self.CALLS)
        answers(calls)
        self.assertEqual(calls, self.CALLS)

    def test_it_is_not_changed_for_a_while_either(self):
        self.assertEqual(answers(Unchanging(self.CALLS)), answers(list(self.CALLS)))

    def test_what_is_given_back_is_another_list_each_time(self):
        calls = list(self.CALLS)
        first = answers(calls)
        wanted = list(first)
        first.clear()
        self.assertEqual(answers(calls), wanted)
        self.assertEqual(calls, self.CALLS)


class NothingIsKept(unittest.TestCase):
    def test_asking_twice(self):
        chance = random.Random(7)
        lists = [flat(some_calls(chance)) for _ in range(100)]
        first = [answers(calls) for calls in lists]
        again = [answers(calls) for calls in reversed(lists)]
        self.assertEqual(first, again[::-1])

    def test_each_list_has_a_house_of_its_own(self):
        answers(flat([begin(8), sample(0, 5, 5), sample(7, 5, 5)]))
        answers(flat([sample(0, 5, 5)]))
        self.assertEqual(ask([out(0, 5), sample(0, 5, 6), sample(1, 5, 5)]), [[-3], [1], [-2]])


if __name__ == "__main__":
    unittest.main()
