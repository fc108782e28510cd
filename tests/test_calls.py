"""The calls 1 to 6 at ordinary inputs and at the edges that the document names."""

import unittest

from anewcounts import counters
from tests.asking import BIG, anew, ask, begin, flat, last, out, rate, sample, samples, total


class WholeLists(unittest.TestCase):
    def check(self, calls, told):
        self.assertEqual(counters.answers(flat(calls)), told)

    def test_begin(self):
        self.check([begin(3)], [1, 0])

    def test_sample(self):
        self.check([sample(0, 10, 4), sample(0, 20, 9)], [1, 1, 1, 2])

    def test_out(self):
        self.check([sample(0, 10, 4), sample(0, 20, 9), out(0, 10)], [1, 1, 1, 2, 1, 1])

    def test_total(self):
        self.check([sample(0, 10, 4), sample(0, 20, 9), total(0, 10, 20), total(0, 10, 11)],
                   [1, 1, 1, 2, 2, 5, 1, 2, 1, 2])

    def test_rate(self):
        self.check([sample(0, 10, 4), sample(0, 20, 9), rate(0, 10, 20)], [1, 1, 1, 2, 2, 1, 2])

    def test_anew(self):
        self.check([sample(0, 10, 9), sample(0, 20, 4), anew(0, 10, 20)], [1, 1, 1, 2, 1, 1])

    def test_a_refusal_is_one_number(self):
        self.check([begin(0), sample(1, 0, 0), out(0, 0), total(0, 0, 0), rate(0, 0, 0), anew(0, 1, 0)],
                   [1, -1, 1, -2, 1, -3, 1, -3, 1, -1, 1, -1])

    def test_all_six_in_any_order(self):
        self.check([anew(0, 0, 9), begin(2), sample(1, 30, 2), sample(1, 10, 7), rate(1, 10, 30),
                    total(1, 10, 25), out(1, 30), total(1, 10, 10)],
                   [1, 0, 1, 0, 1, 1, 1, 2, 2, 1, 10, 2, 3, 2, 1, 1, 2, 0, 1])


class Begin(unittest.TestCase):
    def test_from_one_to_eight(self):
        for series in range(1, 9):
            found = ask([begin(series)] + [sample(k, 5, 5) for k in range(9)])
            self.assertEqual(found, [[0]] + [[1]] * series + [[-2]] * (9 - series))

    def test_others_are_refused_and_all_is_as_it_was(self):
        for series in (0, 9, 10, 2 ** 32, BIG):
            calls = [begin(2), sample(1, 5, 5), begin(series), sample(1, 6, 6), sample(2, 0, 0), total(1, 5, 6)]
            self.assertEqual(ask(calls), [[0], [1], [-1], [2], [-2], [1, 1]])

    def test_again_takes_all_samples_away(self):
        calls = [begin(2), sample(0, 5, 5), sample(1, 5, 5), begin(2), out(0, 5), sample(1, 5, 6), total(0, 5, 5)]
        self.assertEqual(ask(calls), [[0], [1], [1], [0], [-3], [1], [-3]])

    def test_again_with_fewer_and_with_more(self):
        calls = [begin(3), begin(1), sample(1, 0, 0), begin(8), sample(7, 0, 0)]
        self.assertEqual(ask(calls), [[0], [0], [-2], [0], [1]])

    def test_without_it_there_is_one_series(self):
        self.assertEqual(ask([sample(0, 1, 1), sample(1, 1, 1)]), [[1], [-2]])

    def test_series_are_apart(self):
        calls = [begin(2), sample(0, 1, 5), sample(1, 1, 7), sample(1, 3, 9), total(0, 1, 3), total(1, 1, 3)]
        self.assertEqual(ask(calls), [[0], [1], [1], [2], [-3], [2, 1]])


class Sample(unittest.TestCase):
    def test_any_order_of_times(self):
        held = [(1, 5), (4, 2), (6, 2), (9, 11)]
        for order in ((0, 1, 2, 3), (3, 2, 1, 0), (2, 0, 3, 1), (1, 3, 0, 2)):
            calls = samples(0, *[held[k] for k in order])
            found = ask(calls + [total(0, 1, 9), total(0, 2, 8), anew(0, 0, 10)])
            self.assertEqual(found, [[1], [2], [3], [4], [11, 1], [22, 3], [1]])

    def test_the_same_again_changes_nothing(self):
        calls = samples(0, (5, 3), (9, 4), (5, 3), (9, 4)) + [total(0, 5, 9), out(0, 5), out(0, 5)]
        self.assertEqual(ask(calls), [[1], [2], [2], [2], [1, 1], [1], [-3]])

    def test_the_same_time_with_another(self):
        calls = samples(0, (5, 3), (9, 4), (5, 4), (9, 0)) + [total(0, 5, 9), sample(0, 5, 3)]
        self.assertEqual(ask(calls), [[1], [2], [-4], [-4], [1, 1], [2]])

    def test_the_last_time(self):
        calls = [sample(0, 10 ** 6, 3), sample(0, 10 ** 6 + 1, 3), sample(0, 0, 3)]
        self.assertEqual(ask(calls), [[1], [-1], [2]])

    def test_the_most_that_is_shown(self):
        calls = [sample(0, 1, 10 ** 9), sample(0, 2, 10 ** 9 + 1), sample(0, 0, 0), total(0, 0, 1)]
        self.assertEqual(ask(calls), [[1], [-1], [2], [10 ** 9, 1]])

    def test_too_much_at_a_time_that_has_one(self):
        self.assertEqual(last([sample(0, 1, 1), sample(0, 1, 10 ** 9 + 1)]), [-1])

    def test_no_such_series_ahead_of_all_else(self):
        for calls in ([sample(1, 10 ** 6 + 1, 0)], [sample(1, 0, 10 ** 9 + 1)], [sample(BIG, BIG, BIG)]):
            self.assertEqual(ask(calls), [[-2]])

    def test_sixty_in_one_list(self):
        found = ask([sample(0, 7 * k % 61, k) for k in range(60)])
        self.assertEqual(found, [[k + 1] for k in range(60)])

    def test_one_more_than_sixty(self):
        # No list of calls is long enough for this, so the call is made by itself.
        house = counters.House()
        for k in range(60):
            self.assertEqual(counters.sample(house, 0, k, k), [k + 1])
        self.assertEqual(counters.sample(house, 0, 60, 1), [-5])
        self.assertEqual(counters.sample(house, 0, 59, 1), [-4])
        self.assertEqual(counters.sample(house, 0, 59, 59), [60])
        self.assertEqual(counters.sample(house, 0, 10 ** 6 + 1, 1), [-1])
        self.assertEqual(counters.out(house, 0, 30), [59])
        self.assertEqual(counters.sample(house, 0, 60, 1), [60])


class Out(unittest.TestCase):
    HELD = samples(0, (10, 5), (20, 3), (30, 8))

    def test_the_first(self):
        found = ask(self.HELD + [out(0, 10), total(0, 10, 30), total(0, 20, 30), anew(0, 0, 40)])
        self.assertEqual(found[3:], [[2], [-3], [5, 1], [0]])

    def test_a_middle_one(self):
        found = ask(self.HELD + [total(0, 10, 30), out(0, 20), total(0, 10, 30), total(0, 10, 20)])
        self.assertEqual(found[3:], [[8, 1], [2], [3, 1], [3, 2]])

    def test_the_last(self):
        found = ask(self.HELD + [out(0, 30), total(0, 10, 30), total(0, 10, 20), anew(0, 0, 40)])
        self.assertEqual(found[3:], [[2], [-3], [3, 1], [1]])

    def test_the_only_one(self):
        found = ask([sample(0, 10, 5), out(0, 10), total(0, 10, 10), out(0, 10), sample(0, 11, 1)])
        self.assertEqual(found, [[1], [0], [-3], [-3], [1]])

    def test_it_answers_how_many_are_left(self):
        found = ask(self.HELD + [out(0, 20), out(0, 30), out(0, 10)])
        self.assertEqual(found[3:], [[2], [1], [0]])

    def test_none_of_that_time(self):
        for time in (0, 9, 11, 31, 10 ** 6, 10 ** 6 + 1, BIG):
            found = ask(self.HELD + [out(0, time), sample(0, 20, 3), total(0, 10, 30)])
            self.assertEqual(found[3:], [[-3], [3], [8, 1]])

    def test_none_in_a_series_without_samples(self):
        self.assertEqual(ask([out(0, 0)]), [[-3]])

    def test_sampled_again_showing_something_else(self):
        found = ask(self.HELD + [out(0, 20), sample(0, 20, 7), total(0, 10, 20), total(0, 20, 30), sample(0, 20, 3)])
        self.assertEqual(found[3:], [[2], [3], [2, 1], [1, 1], [-4]])

    def test_only_of_that_series(self):
        found = ask([begin(2), sample(0, 1, 1), sample(1, 1, 1), out(1, 1), sample(0, 1, 1), out(1, 1)])
        self.assertEqual(found[3:], [[0], [1], [-3]])


class Total(unittest.TestCase):
    HELD = samples(0, (10, 4), (20, 9), (26, 2), (30, 2), (34, 0), (40, 7))

    def check(self, a, b, told):
        self.assertEqual(last(self.HELD + [total(0, a, b)]), told)

    def test_at_samples(self):
        self.check(10, 20, [5, 1])
        self.check(10, 40, [14, 1])
        self.check(20, 40, [9, 1])

    def test_between_samples(self):
        self.check(12, 33, [6, 1])
        self.check(11, 23, [11, 2])
        self.check(10, 23, [6, 1])
        self.check(23, 40, [8, 1])

    def test_both_between_the_same_two(self):
        self.check(11, 14, [3, 2])
        self.check(21, 22, [1, 3])
        self.check(37, 39, [7, 3])

    def test_from_a_time_to_itself(self):
        for time in (10, 13, 20, 23, 34, 40):
            self.check(time, time, [0, 1])

    def test_across_a_beginning(self):
        self.check(20, 26, [2, 1])
        self.check(18, 26, [3, 1])

    def test_the_next_one_shows_the_same(self):
        self.check(26, 30, [0, 1])
        self.check(27, 29, [0, 1])

    def test_the_next_one_shows_nothing(self):
        self.check(30, 34, [0, 1])
        self.check(31, 33, [0, 1])
        self.check(30, 35, [7, 6])

    def test_from_zero_to_zero(self):
        found = ask(samples(0, (1, 0), (5, 0)) + [total(0, 1, 5), total(0, 2, 3), anew(0, 1, 5)])
        self.assertEqual(found[2:], [[0, 1], [0, 1], [0]])

    def test_ahead_of_the_first_and_behind_the_last(self):
        for a, b in ((9, 20), (0, 10), (9, 9), (10, 41), (40, 41), (41, 41), (9, 41), (0, BIG), (BIG, BIG)):
            self.check(a, b, [-3])

    def test_no_sample(self):
        self.assertEqual(ask([total(0, 0, 0), total(0, 3, 5)]), [[-3], [-3]])

    def test_one_sample(self):
        found = ask([sample(0, 5, 9), total(0, 5, 5), total(0, 4, 5), total(0, 5, 6), total(0, 4, 4), total(0, 6, 6)])
        self.assertEqual(found[1:], [[0, 1], [-3], [-3], [-3], [-3]])

    def test_what_the_first_one_shows_is_not_counted(self):
        self.assertEqual(last(samples(0, (0, 100), (1, 103)) + [total(0, 0, 1)]), [3, 1])

    def test_one_less_and_one_more(self):
        self.assertEqual(last(samples(0, (0, 100), (1, 99)) + [total(0, 0, 1)]), [99, 1])
        self.assertEqual(last(samples(0, (0, 100), (1, 101)) + [total(0, 0, 1)]), [1, 1])

    def test_lowest_terms(self):
        held = samples(0, (0, 0), (12, 18), (999999, 10 ** 9))
        found = ask(held + [total(0, 0, 8), total(0, 1, 2), total(0, 0, 13), total(0, 11, 14), total(0, 5, 999998)])
        self.assertEqual(found[3:], [[12, 1], [3, 2], [1017999748, 999987], [4002999889, 1999974],
                                     [1999971985000231, 1999974]])


class Rate(unittest.TestCase):
    HELD = samples(0, (10, 4), (20, 9), (26, 2), (30, 2), (36, 20))

    def check(self, a, b, told):
        self.assertEqual(last(self.HELD + [rate(0, a, b)]), told)

    def test_at_samples(self):
        self.check(10, 20, [1, 2])
        self.check(10, 36, [25, 26])
        self.check(30, 36, [3, 1])

    def test_between_samples(self):
        self.check(11, 14, [1, 2])
        self.check(19, 23, [3, 8])
        self.check(31, 34, [3, 1])
        self.check(25, 32, [19, 21])

    def test_across_a_beginning(self):
        self.check(20, 26, [1, 3])

    def test_nothing_counted(self):
        self.check(26, 30, [0, 1])
        self.check(27, 29, [0, 1])

    def test_b_is_not_above_a(self):
        for a, b in ((20, 20), (15, 15), (20, 10), (11, 10), (0, 0), (41, 40), (BIG, BIG), (BIG, 0)):
            self.check(a, b, [-1])

    def test_not_known(self):
        for a, b in ((9, 10), (9, 20), (36, 37), (20, 37), (0, 5), (0, BIG), (BIG - 1, BIG)):
            self.check(a, b, [-3])

    def test_no_sample_and_one_sample(self):
        self.assertEqual(ask([rate(0, 0, 1), sample(0, 0, 4), rate(0, 0, 1)]), [[-3], [1], [-3]])

    def test_the_greatest_and_the_least(self):
        held = samples(0, (0, 0), (1, 10 ** 9), (10 ** 6, 1))
        self.assertEqual(ask(held + [rate(0, 0, 1), rate(0, 1, 10 ** 6), rate(0, 2, 3)])[3:],
                         [[10 ** 9, 1], [1, 999999], [1, 999999]])


class Anew(unittest.TestCase):
    HELD = samples(0, (10, 9), (20, 4), (30, 4), (40, 0), (50, 3), (60, 2))

    def check(self, a, b, told):
        self.assertEqual(last(self.HELD + [anew(0, a, b)]), [told])

    def test_all(self):
        self.check(10, 60, 3)

    def test_both_samples_are_from_a_to_b(self):
        self.check(10, 20, 1)
        self.check(11, 20, 0)
        self.check(10, 19, 0)
        self.check(11, 59, 1)
        self.check(20, 50, 1)
        self.check(30, 40, 1)
        self.check(31, 60, 1)
        self.check(50, 60, 1)
        self.check(51, 60, 0)

    def test_between_the_same_two(self):
        self.check(11, 19, 0)
        self.check(15, 15, 0)
        self.check(20, 20, 0)

    def test_known_or_not(self):
        self.check(0, 9, 0)
        self.check(0, 20, 1)
        self.check(0, BIG, 3)
        self.check(50, BIG, 1)
        self.check(61, BIG, 0)
        self.check(BIG, BIG, 0)

    def test_as_much_is_not_anew(self):
        self.check(20, 30, 0)

    def test_no_sample_and_one_sample(self):
        self.assertEqual(ask([anew(0, 0, BIG), sample(0, 3, 3), anew(0, 0, BIG)]), [[0], [1], [0]])

    def test_b_less_than_a(self):
        for a, b in ((1, 0), (60, 10), (11, 10), (BIG, BIG - 1), (BIG, 0)):
            self.check(a, b, -1)


if __name__ == "__main__":
    unittest.main()
