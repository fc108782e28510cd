"""Which refusal is told first, that a refusal changes nothing, and the greatest numbers."""

import unittest

from tests.asking import (BIG, anew, ask, begin, gaps, last, list_of, most, out, rate, sample, samples, sum_of, top,
                          total, when)

HELD = [begin(2)] + samples(0, (10, 5), (20, 3)) + samples(1, (7, 8), (9, 8), (8, 1))

# Each sees something of what is held.
PROBES = (samples(0, (10, 5), (20, 3)) + samples(1, (7, 8), (8, 1), (9, 8))
          + [total(0, 10, 20), total(1, 7, 9), rate(0, 11, 17), rate(1, 7, 8), anew(0, 0, BIG), anew(1, 0, BIG),
             list_of(0), list_of(1), list_of(2), gaps(0, 9), gaps(1, 0), most(0, 3), most(1, 1), when(0, 10, 2),
             when(1, 7, 3), sum_of(8, 8, 1, 1), top(2, 7, 9), top(2, 10, 20),
             sample(2, 0, 0), out(0, 10), out(0, 20), out(1, 7), out(1, 8), out(1, 9)])

# A call on what is held, and what it is refused with.
REFUSED = [
    (begin(0), -1),
    (begin(9), -1),
    (begin(BIG), -1),
    (sample(2, 10, 5), -2),
    (sample(2, 10 ** 6 + 1, 5), -2),
    (sample(2, 10, 10 ** 9 + 1), -2),
    (sample(0, 10 ** 6 + 1, 5), -1),
    (sample(0, 11, 10 ** 9 + 1), -1),
    (sample(0, 10, 10 ** 9 + 1), -1),
    (sample(0, 10 ** 6 + 1, 10 ** 9 + 1), -1),
    (sample(0, 10, 6), -4),
    (sample(1, 8, 0), -4),
    (out(2, 10), -2),
    (out(2, 11), -2),
    (out(0, 11), -3),
    (out(1, 10), -3),
    (total(2, 10, 20), -2),
    (total(2, 20, 10), -2),
    (total(2, 0, 1), -2),
    (total(0, 20, 10), -1),
    (total(0, 21, 10), -1),
    (total(0, 3, 2), -1),
    (total(0, 9, 10), -3),
    (total(0, 20, 21), -3),
    (rate(2, 10, 20), -2),
    (rate(2, 10, 10), -2),
    (rate(2, 0, 1), -2),
    (rate(0, 10, 10), -1),
    (rate(0, 21, 21), -1),
    (rate(0, 21, 9), -1),
    (rate(0, 9, 10), -3),
    (rate(0, 20, 21), -3),
    (anew(2, 10, 20), -2),
    (anew(2, 20, 10), -2),
    (anew(0, 20, 10), -1),
    (gaps(2, 0), -2),
    (gaps(2, 9), -2),
    (most(2, 0), -2),
    (most(2, 1), -2),
    (most(2, 11), -2),
    (most(0, 0), -1),
    (most(0, 11), -3),
    (when(2, 10, 1), -2),
    (when(2, 9, 0), -2),
    (when(2, 10, 9), -2),
    (when(0, 9, 0), -3),
    (when(0, 21, 0), -3),
    (when(0, 9, 1), -3),
    (when(0, 21, 1), -3),
    (when(0, 9, 4), -3),
    (when(0, 10, 4), -6),
    (when(0, 20, 1), -6),
    (sum_of(20, 10), -1),
    (sum_of(20, 10, 0), -1),
    (sum_of(20, 10, 2), -1),
    (sum_of(9, 8, 0), -1),
    (sum_of(9, 8, 0, 2), -1),
    (sum_of(10, 20, 2), -2),
    (sum_of(10, 20, 0, 2), -2),
    (sum_of(10, 20, 1, 2), -2),
    (sum_of(10, 20, 2, 1), -2),
    (sum_of(10, 20, 1), -3),
    (sum_of(10, 20, 0, 1), -3),
    (sum_of(10, 20, 1, 0), -3),
    (top(0, 20, 10), -1),
    (top(2, 20, 10), -1),
    (top(2, 3, 2), -1),
    (list_of(2), -2),
]

# Each call with the greatest number at each of its places, and at several, on what is held.
GREATEST = [
    (begin(BIG), [-1]),
    (sample(BIG, 10, 5), [-2]),
    (sample(0, BIG, 5), [-1]),
    (sample(0, 10, BIG), [-1]),
    (sample(0, 11, BIG), [-1]),
    (sample(0, BIG, BIG), [-1]),
    (sample(BIG, BIG, BIG), [-2]),
    (out(BIG, 10), [-2]),
    (out(0, BIG), [-3]),
    (out(BIG, BIG), [-2]),
    (total(BIG, 10, 20), [-2]),
    (total(0, BIG, 20), [-1]),
    (total(0, 10, BIG), [-3]),
    (total(0, BIG, BIG), [-3]),
    (total(BIG, BIG, 0), [-2]),
    (rate(BIG, 10, 20), [-2]),
    (rate(0, BIG, 20), [-1]),
    (rate(0, 10, BIG), [-3]),
    (rate(0, BIG - 1, BIG), [-3]),
    (rate(0, BIG, BIG), [-1]),
    (rate(BIG, BIG, 0), [-2]),
    (anew(BIG, 10, 20), [-2]),
    (anew(0, BIG, 20), [-1]),
    (anew(0, 10, BIG), [1]),
    (anew(0, BIG, BIG), [0]),
    (anew(BIG, BIG, 0), [-2]),
    (gaps(BIG, 9), [-2]),
    (gaps(0, BIG), [0]),
    (gaps(BIG, BIG), [-2]),
    (most(BIG, 3), [-2]),
    (most(BIG, 0), [-2]),
    (most(0, BIG), [-3]),
    (most(BIG, BIG), [-2]),
    (when(BIG, 10, 1), [-2]),
    (when(0, BIG, 1), [-3]),
    (when(0, BIG, 0), [-3]),
    (when(0, 10, BIG), [-6]),
    (when(0, 11, BIG), [-6]),
    (when(0, BIG, BIG), [-3]),
    (when(BIG, BIG, BIG), [-2]),
    (sum_of(BIG, 20, 0), [-1]),
    (sum_of(10, BIG, 0), [-3]),
    (sum_of(10, BIG), [0, 1]),
    (sum_of(BIG, BIG), [0, 1]),
    (sum_of(10, 20, BIG), [-2]),
    (sum_of(10, 20, 0, BIG), [-2]),
    (sum_of(10, 20, *[BIG] * 1024), [-2]),
    (sum_of(BIG, BIG, BIG), [-2]),
    (top(BIG, 10, 20), [1, 0, 3, 1]),
    (top(2, BIG, 20), [-1]),
    (top(2, 10, BIG), [0]),
    (top(BIG, BIG, BIG), [0]),
    (top(BIG, BIG, 0), [-1]),
    (list_of(BIG), [-2]),
]


class Refusals(unittest.TestCase):
    def test_the_one_told_first(self):
        for call, refusal in REFUSED:
            with self.subTest(call=call):
                self.assertEqual(last(HELD + [call]), [refusal])

    def test_all_is_as_it_was(self):
        before = ask(HELD + PROBES)[len(HELD):]
        for call, refusal in REFUSED:
            with self.subTest(call=call):
                found = ask(HELD + [call] + PROBES)
                self.assertEqual(found[len(HELD):], [[refusal]] + before)

    def test_many_refusals_on_end(self):
        before = ask(HELD + PROBES)[len(HELD):]
        for start in range(0, len(REFUSED), 7):
            some = REFUSED[start:start + 7]
            found = ask(HELD + [call for call, refusal in some] + PROBES)
            self.assertEqual(found[len(HELD):], [[refusal] for call, refusal in some] + before)

    def test_asking_changes_nothing(self):
        before = ask(HELD + PROBES)[len(HELD):]
        asked = [total(0, 10, 20), total(1, 7, 9), rate(0, 10, 20), anew(1, 0, 99), sample(0, 10, 5), gaps(1, 0),
                 most(0, 3), when(1, 7, 2), sum_of(8, 9, 1, 1), top(2, 10, 20), list_of(1)]
        self.assertEqual(ask(HELD + asked + PROBES)[len(HELD) + len(asked):], before)

    def test_the_greatest_numbers(self):
        before = ask(HELD + PROBES)[len(HELD):]
        for call, told in GREATEST:
            with self.subTest(call=call):
                self.assertEqual(ask(HELD + [call] + PROBES)[len(HELD):], [told] + before)


if __name__ == "__main__":
    unittest.main()
