"""The calls 7 to 12 at ordinary inputs and at the edges that the document names."""

import unittest

from anewcounts import counters
from tests.asking import (BIG, anew, ask, begin, flat, gaps, last, list_of, most, out, rate, sample, samples, sum_of,
                          top, total, when)

# Counted up to these: 0, 5, 7, 7, 25.
PAIRS = ((10, 4), (20, 9), (26, 2), (30, 2), (36, 20))
HELD = samples(0, *PAIRS)

# Of the series 0 to 2 the totals from 0 to 1 are 1/2, 1/3, 1/3, those from 0 to 6 are 3, 1, 2; 3 has no samples.
FOUR = ([begin(4)] + samples(0, (0, 0), (6, 3)) + samples(1, (3, 1), (0, 0), (6, 1)) + samples(2, (0, 5), (6, 2)))


class WholeLists(unittest.TestCase):
    def check(self, calls, told):
        self.assertEqual(counters.answers(flat(calls)), told)

    def test_gaps(self):
        self.check([sample(0, 10, 4), sample(0, 20, 9), gaps(0, 9)], [1, 1, 1, 2, 3, 1, 10, 20])

    def test_most(self):
        self.check([sample(0, 10, 4), sample(0, 20, 9), most(0, 3)], [1, 1, 1, 2, 3, 10, 3, 2])

    def test_when(self):
        self.check([sample(0, 10, 4), sample(0, 20, 9), when(0, 11, 2)], [1, 1, 1, 2, 2, 15, 1])

    def test_sum_of(self):
        self.check([sample(0, 10, 4), sample(0, 20, 9), sum_of(10, 13, 0, 0, 0)], [1, 1, 1, 2, 2, 9, 2])

    def test_top(self):
        self.check([sample(0, 10, 4), sample(0, 20, 9), top(1, 10, 13)], [1, 1, 1, 2, 4, 1, 0, 3, 2])

    def test_list_of(self):
        self.check([sample(0, 20, 9), sample(0, 10, 4), list_of(0)], [1, 1, 1, 2, 5, 2, 10, 4, 20, 9])

    def test_a_refusal_is_one_number(self):
        self.check([gaps(1, 0), most(0, 0), when(0, 0, 0), sum_of(1, 0), top(0, 1, 0), list_of(1)],
                   [1, -2, 1, -1, 1, -3, 1, -1, 1, -1, 1, -2])

    def test_where_a_list_ends_the_next_call_begins(self):
        self.check([sum_of(0, 0), sum_of(0, 0, 10, 10, 10), sum_of(3, 2, 12), list_of(0), sum_of(0, 1, 0), begin(2)],
                   [2, 0, 1, 1, -2, 1, -1, 1, 0, 1, -3, 1, 0])

    def test_all_twelve_in_any_order(self):
        self.check([list_of(0), top(3, 0, 0), begin(2), sample(1, 30, 2), sample(1, 10, 7), gaps(1, 19), most(1, 5),
                    when(1, 10, 1), sum_of(10, 15, 1), top(2, 10, 30), rate(1, 10, 30), total(1, 10, 25),
                    anew(1, 10, 30), out(1, 30), list_of(1)],
                   [1, 0, 1, 0, 1, 0, 1, 1, 1, 2, 3, 1, 10, 30, 3, 10, 1, 2,
                    2, 20, 1, 2, 1, 2, 4, 1, 1, 2, 1, 2, 1, 10, 2, 3, 2,
                    1, 1, 1, 1, 3, 1, 10, 7])


class Gaps(unittest.TestCase):
    def check(self, g, told):
        self.assertEqual(last(HELD + [gaps(0, g)]), told)

    def test_just_so_far_apart_and_one_more(self):
        self.check(10, [0])
        self.check(9, [1, 10, 20])
        self.check(6, [1, 10, 20])
        self.check(5, [3, 10, 20, 20, 26, 30, 36])
        self.check(4, [3, 10, 20, 20, 26, 30, 36])
        self.check(3, [4, 10, 20, 20, 26, 26, 30, 30, 36])

    def test_zero(self):
        self.check(0, [4, 10, 20, 20, 26, 26, 30, 30, 36])
        self.assertEqual(last(samples(0, (5, 1), (4, 1), (6, 1)) + [gaps(0, 0)]), [2, 4, 5, 5, 6])
        self.assertEqual(last(samples(0, (5, 1), (4, 1), (6, 1)) + [gaps(0, 1)]), [0])

    def test_in_order_however_they_came(self):
        for pairs in (PAIRS[::-1], PAIRS[2:] + PAIRS[:2]):
            self.assertEqual(last(samples(0, *pairs) + [gaps(0, 5)]), [3, 10, 20, 20, 26, 30, 36])

    def test_the_greatest(self):
        self.check(BIG, [0])
        held = samples(0, (0, 0), (10 ** 6, 0))
        self.assertEqual(ask(held + [gaps(0, 10 ** 6 - 1), gaps(0, 10 ** 6)])[2:], [[1, 0, 10 ** 6], [0]])

    def test_no_sample_and_one_sample(self):
        self.assertEqual(ask([gaps(0, 0), sample(0, 5, 5), gaps(0, 0)]), [[0], [1], [0]])

    def test_a_sample_taken_out_and_one_between(self):
        found = ask(HELD + [out(0, 26), gaps(0, 9), sample(0, 15, 0), gaps(0, 9)])
        self.assertEqual(found[5:], [[4], [2, 10, 20, 20, 30], [5], [1, 20, 30]])

    def test_no_such_series(self):
        self.assertEqual(ask([gaps(1, 0), gaps(BIG, BIG)]), [[-2], [-2]])


class Most(unittest.TestCase):
    def check(self, w, told, held=HELD):
        self.assertEqual(last(held + [most(0, w)]), told)

    def test_it_begins_and_ends_at_a_sample(self):
        self.check(6, [30, 18, 1])
        self.check(10, [26, 18, 1])

    def test_it_begins_at_a_sample(self):
        self.check(4, [30, 12, 1])
        self.check(1, [30, 3, 1])
        self.check(4, [5, 4, 1], samples(0, (0, 0), (5, 1), (10, 6), (15, 6)))

    def test_it_ends_at_a_sample(self):
        self.check(8, [28, 18, 1])
        self.check(20, [16, 22, 1])

    def test_the_least_of_as_great_ones(self):
        self.check(3, [0, 3, 1], samples(0, (0, 0), (10, 10)))
        held = samples(0, (0, 5), (4, 5), (10, 11), (20, 11), (26, 17))
        self.check(6, [4, 6, 1], held)
        self.check(8, [2, 6, 1], held)
        self.check(1, [4, 1, 1], held)

    def test_as_great_with_other_lower_numbers(self):
        # Each grows by 1/3 a time, over samples 3 apart and 6 apart.
        self.check(2, [0, 2, 3], samples(0, (0, 0), (3, 1), (9, 3), (12, 3)))
        self.check(2, [3, 2, 3], samples(0, (0, 0), (3, 0), (9, 2), (12, 3)))

    def test_a_fraction(self):
        self.check(1, [7, 1, 3], samples(0, (7, 0), (10, 1)))
        self.check(7, [10, 7, 3], samples(0, (10, 0), (16, 2), (19, 3)))

    def test_the_greater_fraction(self):
        # The rates are 1/3 and 2/7, then 1/3 and 3/7.
        self.check(1, [0, 1, 3], samples(0, (0, 0), (3, 1), (10, 3)))
        self.check(1, [3, 3, 7], samples(0, (0, 0), (3, 1), (10, 4)))

    def test_nothing_counted(self):
        self.check(2, [5, 0, 1], samples(0, (5, 3), (9, 3)))
        self.check(4, [5, 0, 1], samples(0, (5, 3), (9, 3)))
        self.check(2, [5, 0, 1], samples(0, (5, 3), (9, 0)))

    def test_it_begins_at_zero(self):
        self.check(2, [0, 2, 1], samples(0, (0, 0), (4, 4), (8, 5)))
        self.check(3, [1, 3, 1], samples(0, (0, 0), (1, 0), (4, 3)))

    def test_across_a_beginning(self):
        self.check(2, [3, 9, 1], samples(0, (0, 50), (3, 50), (4, 4), (5, 9)))

    def test_from_the_first_to_the_last_and_longer(self):
        self.check(26, [10, 25, 1])
        self.check(25, [11, 49, 2])
        for w in (27, 36, 37, 10 ** 6, 10 ** 6 + 1, 2 ** 63, BIG):
            self.check(w, [-3])

    def test_the_whole_of_time(self):
        held = samples(0, (0, 0), (10 ** 6, 10 ** 9))
        self.check(10 ** 6, [0, 10 ** 9, 1], held)
        self.check(10 ** 6 + 1, [-3], held)
        self.check(BIG, [-3], held)

    def test_no_sample_and_one_sample(self):
        for w in (1, 5, BIG):
            self.assertEqual(ask([most(0, w), sample(0, 5, 5), most(0, w)]), [[-3], [1], [-3]])

    def test_no_length(self):
        self.check(0, [-1])
        self.assertEqual(ask([most(0, 0), sample(0, 5, 5), most(0, 0)]), [[-1], [1], [-1]])

    def test_no_such_series(self):
        self.assertEqual(ask([most(1, 0), most(1, 1), most(BIG, BIG)]), [[-2], [-2], [-2]])


class When(unittest.TestCase):
    def check(self, a, x, told):
        self.assertEqual(last(HELD + [when(0, a, x)]), told)

    def test_nothing_more_is_at_once(self):
        for a in (10, 11, 20, 23, 26, 28, 30, 35, 36):
            self.check(a, 0, [a, 1])
        self.assertEqual(ask([sample(0, 0, 5), when(0, 0, 0)])[1], [0, 1])

    def test_at_a_sample(self):
        self.check(10, 5, [20, 1])
        self.check(10, 25, [36, 1])
        self.check(20, 20, [36, 1])

    def test_between_samples(self):
        self.check(10, 1, [12, 1])
        self.check(10, 6, [23, 1])
        self.check(30, 9, [33, 1])

    def test_a_fraction(self):
        self.check(10, 8, [91, 3])
        self.check(30, 1, [91, 3])
        self.check(20, 15, [103, 3])

    def test_from_between_samples(self):
        self.check(11, 1, [13, 1])
        self.check(11, 5, [43, 2])
        self.check(11, 24, [215, 6])
        self.check(22, 1, [25, 1])
        self.check(35, 3, [36, 1])

    def test_the_earliest(self):
        self.check(10, 7, [26, 1])
        self.check(23, 1, [26, 1])
        held = samples(0, (0, 0), (2, 3), (4, 3), (6, 0), (8, 0), (9, 1))
        self.assertEqual(ask(held + [when(0, 0, 3), when(0, 1, 1), when(0, 0, 4)])[6:], [[2, 1], [5, 3], [9, 1]])

    def test_from_where_nothing_is_counted(self):
        for a in (26, 27, 29, 30):
            self.check(a, 1, [91, 3])
            self.check(a, 18, [36, 1])

    def test_across_a_beginning(self):
        self.check(20, 1, [23, 1])
        self.check(18, 2, [23, 1])
        self.check(18, 3, [26, 1])
        held = samples(0, (0, 9), (4, 8), (8, 7), (12, 6))
        self.assertEqual(ask(held + [when(0, 0, 15), when(0, 3, 15), when(0, 1, 19), when(0, 1, 20)])[4:],
                         [[8, 1], [12, 1], [12, 1], [-6]])

    def test_just_so_much_and_one_more(self):
        for a, x in ((10, 25), (20, 20), (26, 18), (28, 18), (30, 18), (33, 9)):
            self.check(a, x, [36, 1])
            self.check(a, x + 1, [-6])
        self.check(11, 24, [215, 6])
        self.check(11, 25, [-6])

    def test_from_the_last(self):
        self.check(36, 1, [-6])
        self.check(36, BIG, [-6])
        self.assertEqual(ask([sample(0, 5, 9), when(0, 5, 0), when(0, 5, 1)])[1:], [[5, 1], [-6]])

    def test_the_last_ones_count_nothing(self):
        held = samples(0, (0, 0), (3, 2), (5, 2), (9, 0))
        self.assertEqual(ask(held + [when(0, 0, 2), when(0, 0, 3), when(0, 4, 1), when(0, 9, 0)])[4:],
                         [[3, 1], [-6], [-6], [9, 1]])

    def test_not_known(self):
        for a in (0, 9, 37, 10 ** 6, 10 ** 6 + 1, BIG):
            for x in (0, 1, 26, BIG):
                self.check(a, x, [-3])

    def test_no_sample(self):
        self.assertEqual(ask([when(0, 0, 0), when(0, 3, 1)]), [[-3], [-3]])

    def test_no_such_series(self):
        self.assertEqual(ask([when(1, 0, 0), when(1, 3, 1), when(BIG, BIG, BIG)]), [[-2], [-2], [-2]])


class SumOf(unittest.TestCase):
    def check(self, a, b, some, told):
        self.assertEqual(last(FOUR + [sum_of(a, b, *some)]), told)

    def test_no_series(self):
        for a, b in ((0, 1), (0, 0), (3, 100), (0, BIG), (BIG, BIG)):
            self.check(a, b, (), [0, 1])
        self.assertEqual(ask([sum_of(0, 0)]), [[0, 1]])

    def test_one(self):
        self.check(0, 1, (0,), [1, 2])
        self.check(0, 6, (2,), [2, 1])
        self.check(4, 5, (1,), [0, 1])
        self.check(3, 3, (2,), [0, 1])

    def test_several(self):
        self.check(0, 6, (0, 1, 2), [6, 1])
        self.check(0, 6, (2, 0), [5, 1])

    def test_lower_numbers_that_differ(self):
        self.check(0, 1, (0, 1), [5, 6])
        self.check(0, 1, (0, 1, 2), [7, 6])
        self.check(0, 1, (1, 2), [2, 3])
        self.check(0, 5, (0, 2), [25, 6])

    def test_one_that_is_told_twice(self):
        self.check(0, 1, (0, 0), [1, 1])
        self.check(0, 1, (1, 1), [2, 3])
        self.check(0, 1, (1, 2, 1), [1, 1])
        self.check(0, 1, (0, 1, 0, 1, 0), [13, 6])

    def test_a_long_list(self):
        self.check(0, 1, (0, 1) * 512, [1280, 3])
        self.check(0, 1, (1,) * 1024, [1024, 3])
        self.check(0, 6, (2,) * 1023 + (0,), [2049, 1])
        self.check(0, 1, (1,) * 1023 + (3,), [-3])
        self.check(0, 1, (3,) * 1023 + (4,), [-2])
        self.check(1, 0, (4,) * 1024, [-1])

    def test_long_lists_on_end(self):
        asked = [sum_of(0, 1, *((k % 3,) * 1024)) for k in range(15)]
        told = [[512, 1], [1024, 3], [1024, 3]] * 5
        self.assertEqual(ask(FOUR + asked)[len(FOUR):], told)

    def test_eight_series_with_other_lower_numbers(self):
        lower = (2, 3, 5, 7, 11, 13, 17, 19)
        held = [begin(8)] + [sample(k, time, shows) for k in range(8) for time, shows in ((0, 0), (lower[k], 1))]
        self.assertEqual(last(held + [sum_of(0, 1, *range(8))]), [14117683, 9699690])

    def test_b_less_than_a(self):
        for some in ((), (0,), (3,), (4,), (BIG,), (3, 4)):
            self.check(1, 0, some, [-1])
            self.check(BIG, BIG - 1, some, [-1])

    def test_no_such_series(self):
        for some in ((4,), (BIG,), (0, 4), (4, 0), (3, 4), (4, 3), (0, 1, 2, 3, 5), (0, 8, 0)):
            self.check(0, 1, some, [-2])
            self.check(0, 7, some, [-2])

    def test_not_known(self):
        for some in ((3,), (0, 3), (3, 0), (0, 1, 2, 3), (3, 3)):
            self.check(0, 1, some, [-3])
        for a, b in ((0, 7), (7, 7), (6, BIG), (BIG, BIG)):
            self.check(a, b, (0,), [-3])

    def test_one_of_them_is_known_for_longer(self):
        held = FOUR + [sample(1, 9, 1)]
        self.assertEqual(ask(held + [sum_of(0, 9, 1), sum_of(0, 9, 1, 0), sum_of(0, 6, 1, 0)])[len(held):],
                         [[1, 1], [-3], [4, 1]])


class Top(unittest.TestCase):
    def check(self, n, a, b, told):
        self.assertEqual(last(FOUR + [top(n, a, b)]), told)

    def test_fewer_than_there_are(self):
        self.check(1, 0, 6, [1, 0, 3, 1])
        self.check(2, 0, 6, [2, 0, 3, 1, 2, 2, 1])

    def test_all_and_more(self):
        for n in (3, 4, 8, 9, 10 ** 6, 2 ** 63 - 1, 2 ** 63, BIG):
            self.check(n, 0, 6, [3, 0, 3, 1, 2, 2, 1, 1, 1, 1])

    def test_none(self):
        self.check(0, 0, 6, [0])
        self.check(0, 0, 7, [0])

    def test_as_great_ones(self):
        self.check(1, 3, 3, [1, 0, 0, 1])
        self.check(3, 3, 3, [3, 0, 0, 1, 1, 0, 1, 2, 0, 1])

    def test_as_great_fractions(self):
        self.check(2, 0, 1, [2, 0, 1, 2, 1, 1, 3])
        self.check(3, 0, 1, [3, 0, 1, 2, 1, 1, 3, 2, 1, 3])
        held = [begin(3)] + samples(0, (0, 0), (4, 1)) + samples(1, (0, 0), (2, 1)) + samples(2, (0, 0), (8, 4))
        self.assertEqual(last(held + [top(3, 0, 1)]), [3, 1, 1, 2, 2, 1, 2, 0, 1, 4])

    def test_by_what_they_are_not_by_their_numbers(self):
        held = [begin(3)] + samples(0, (0, 0), (7, 2)) + samples(1, (0, 0), (3, 1)) + samples(2, (0, 0), (7, 3))
        self.assertEqual(last(held + [top(3, 0, 1)]), [3, 2, 3, 7, 1, 1, 3, 0, 2, 7])

    def test_all_eight(self):
        shown = (5, 1, 5, 9, 0, 9, 5, 7)
        held = [begin(8)] + [sample(k, time, time * shown[k]) for k in range(8) for time in (0, 1)]
        told = [number for k in (3, 5, 7, 0, 2, 6, 1, 4) for number in (k, shown[k], 1)]
        self.assertEqual(last(held + [top(8, 0, 1)]), [8] + told)
        self.assertEqual(last(held + [top(5, 0, 1)]), [5] + told[:15])

    def test_those_not_known_are_left_out(self):
        held = FOUR + [sample(1, 9, 1), sample(3, 0, 0), sample(3, 8, 8)]
        found = ask(held + [top(4, 0, 8), top(4, 0, 9), top(1, 7, 9), top(4, 0, 10)])
        self.assertEqual(found[len(held):], [[2, 3, 8, 1, 1, 1, 1], [1, 1, 1, 1], [1, 1, 0, 1], [0]])

    def test_none_is_known(self):
        for n in (0, 1, BIG):
            for a, b in ((0, 7), (7, 7), (0, BIG), (BIG, BIG)):
                self.check(n, a, b, [0])
            self.assertEqual(ask([top(n, 0, 0)]), [[0]])

    def test_b_less_than_a(self):
        for n in (0, 1, BIG):
            for a, b in ((1, 0), (6, 5), (BIG, 0), (BIG, BIG - 1)):
                self.check(n, a, b, [-1])
            self.assertEqual(ask([top(n, 1, 0)]), [[-1]])


class ListOf(unittest.TestCase):
    def test_no_sample(self):
        self.assertEqual(ask([list_of(0), begin(8), list_of(7)]), [[0], [0], [0]])

    def test_by_their_times_however_they_came(self):
        for pairs in (PAIRS, PAIRS[::-1], PAIRS[3:] + PAIRS[:3]):
            self.assertEqual(last(samples(0, *pairs) + [list_of(0)]), [5, 10, 4, 20, 9, 26, 2, 30, 2, 36, 20])

    def test_after_out(self):
        found = ask(HELD + [out(0, 20), list_of(0), out(0, 10), out(0, 36), list_of(0), out(0, 26), out(0, 30),
                            list_of(0)])
        self.assertEqual(found[5:], [[4], [4, 10, 4, 26, 2, 30, 2, 36, 20], [3], [2], [2, 26, 2, 30, 2], [1], [0],
                                     [0]])

    def test_after_a_sample_once_more_and_after_another(self):
        found = ask([sample(0, 5, 3), sample(0, 5, 3), sample(0, 5, 4), list_of(0)])
        self.assertEqual(found[1:], [[1], [-4], [1, 5, 3]])

    def test_after_begin(self):
        self.assertEqual(ask(HELD + [begin(1), list_of(0)])[5:], [[0], [0]])

    def test_of_its_own_series(self):
        found = ask([begin(2), sample(0, 5, 3), sample(1, 5, 4), sample(1, 2, 9), list_of(0), list_of(1)])
        self.assertEqual(found[4:], [[1, 5, 3], [2, 2, 9, 5, 4]])

    def test_the_edges_of_a_sample(self):
        self.assertEqual(last(samples(0, (10 ** 6, 10 ** 9), (0, 0)) + [list_of(0)]), [2, 0, 0, 10 ** 6, 10 ** 9])

    def test_many(self):
        pairs = [(7 * k % 59, k) for k in range(59)]
        told = [number for pair in sorted(pairs) for number in pair]
        self.assertEqual(last(samples(0, *pairs) + [list_of(0)]), [59] + told)

    def test_no_such_series(self):
        self.assertEqual(ask([list_of(1), list_of(8), list_of(BIG)]), [[-2], [-2], [-2]])


if __name__ == "__main__":
    unittest.main()
