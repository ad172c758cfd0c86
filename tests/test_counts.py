"""Stage 5: counts."""

import random
import unittest
from itertools import product

from reelsplice.counts import count_cuts, nth_cut, number_of
from reelsplice.cuts import find_cut
from tests.helper import BACK, CASE, FULL, LONG, LOSSY, OPEN_TAPE, TURNING, all_cuts, large_cases, random_cases, stands


def choose(n, k):
    many = 1
    for i in range(k):
        many = many * (n - i) // (i + 1)
    return many


def count_of_open(stock, frames):
    """The number of cuts of a tape of '?' without sayings, by how many frames each reel gives."""
    many = 0
    for used in product(*[range(len(signs) - loss, len(signs) + 1) for signs, loss, _ in stock]):
        if sum(used) == frames:
            ways, left = 1, frames
            for reel, u in zip(stock, used):
                ways *= choose(left, u) * choose(len(reel[0]), u) * (2 if reel[2] and u > 1 else 1)
                left -= u
            many += ways
    return many


class Counts(unittest.TestCase):

    def test_by_trying(self):
        for case in random_cases(31, 400):
            cuts = all_cuts(case)
            self.assertEqual(count_cuts(case), len(cuts), case)
            self.assertEqual(count_cuts(case), count_cuts(case))
            for cut in cuts[:20] + cuts[-3:]:
                number = cuts.index(cut)
                self.assertEqual(nth_cut(case, number), cut, case)
                self.assertEqual(number_of(case, cut), number, case)
            for n in [len(cuts), len(cuts) + 1, 10 ** 29]:
                self.assertIsNone(nth_cut(case, n))

    def test_all_in_ascending_order(self):
        for case in random_cases(32, 60):
            listed, n = [], 0
            while (cut := nth_cut(case, n)) is not None:
                self.assertEqual(number_of(case, cut), n)
                listed.append(cut)
                n += 1
            self.assertEqual(listed, all_cuts(case), case)

    def test_no_cut(self):
        self.assertEqual((count_cuts(BACK), nth_cut(BACK, 0), nth_cut(BACK, 7)), (0, None, None))
        case = (FULL, OPEN_TAPE[:15] + ('',), ())
        self.assertEqual((count_cuts(case), nth_cut(case, 0)), (0, None))

    def test_no_frames(self):
        case = ((('ab', 2, True), ('c', 1, False)), (), ())
        self.assertEqual((count_cuts(case), nth_cut(case, 0), nth_cut(case, 1), number_of(case, ())), (1, (), None, 0))
        case = ((('ab', 2, True), ('c', 0, False)), (), ())
        self.assertEqual((count_cuts(case), nth_cut(case, 0)), (0, None))

    def test_very_many(self):
        for stock in (FULL, LOSSY, TURNING, LONG):
            for frames in (9, 12, 14, 15, 16):
                self.assertEqual(count_cuts((stock, ('?',) * frames, ())), count_of_open(stock, frames))
        self.assertEqual(count_cuts((FULL, OPEN_TAPE, ())), 63063000)
        self.assertGreater(count_cuts((LOSSY, OPEN_TAPE, ())), 10 ** 8)

    def test_numbers_of_very_many(self):
        chance = random.Random(33)
        for case in large_cases():
            many = count_cuts(case)
            if many:
                cuts = []
                for n in sorted([0, many - 1] + [chance.randrange(many) for _ in range(4)]):
                    cut = nth_cut(case, n)
                    self.assertTrue(stands(case, cut))
                    self.assertEqual(number_of(case, cut), n)
                    cuts.append(cut)
                self.assertEqual(cuts, sorted(cuts))
            self.assertIsNone(nth_cut(case, many))
            self.assertEqual(many == 0, find_cut(case) is None)

    def test_sayings_part_the_cuts(self):
        # each cut keeps one of two contrary sayings, so their counts add up
        for stock in (FULL, LOSSY, LONG):
            many = count_cuts((stock, OPEN_TAPE, ()))
            for one, other in [(('same', 2, 11), ('apart', 2, 11)), (('of', 5, 1), ('off', 5, 1))]:
                for more in [(), (('same', 0, 15), ('off', 3, 0))]:
                    both = [count_cuts((stock, OPEN_TAPE, (told,) + more)) for told in (one, other)]
                    self.assertEqual(sum(both), count_cuts((stock, OPEN_TAPE, more)))
                    self.assertTrue(0 < both[0] < many)

    def test_kinds_and_arguments(self):
        before = repr(CASE)
        self.assertIs(type(count_cuts(CASE)), int)
        self.assertIs(type(number_of(CASE, nth_cut(CASE, 1))), int)
        self.assertEqual(repr(nth_cut(CASE, 0)), '((0, 0), (0, 1), (1, 0), (1, 1), (0, 2))')
        self.assertEqual(repr(CASE), before)


if __name__ == '__main__':
    unittest.main()
