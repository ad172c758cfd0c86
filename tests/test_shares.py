"""Stage 10: shares."""

import random
import unittest
from collections import Counter
from itertools import product

from reelsplice.counts import count_cuts, nth_cut
from reelsplice.cuts import is_cut
from reelsplice.shares import cut_of_shares, share_counts, shares
from tests.helper import BACK, CASE, FULL, LONG, LOSSY, OPEN_TAPE, TURNING, all_cuts, large_cases, random_cases, stands


def shares_by_hand(cut, reels):
    return tuple(len([r for r, _ in cut if r == reel]) for reel in range(reels))


class Shares(unittest.TestCase):

    def test_of_cuts(self):
        for case in random_cases(91, 60):
            for cut in all_cuts(case):
                for reels in range(len(case[0]), 7):
                    self.assertEqual(shares(cut, reels), shares_by_hand(cut, reels))

    def test_more_reels_than_the_cut_has(self):
        cut = ((0, 0), (2, 0), (0, 1))
        self.assertEqual([shares(cut, 3), shares(cut, 4), shares(cut, 6)], [(2, 0, 1), (2, 0, 1, 0), (2, 0, 1, 0, 0, 0)])
        self.assertEqual([shares((), 0), shares((), 1), shares((), 4)], [(), (0,), (0, 0, 0, 0)])
        self.assertEqual(repr(shares(((1, 3),), 2)), '(0, 1)')


class Counts(unittest.TestCase):

    def test_by_trying(self):
        found = []
        for case in random_cases(92, 300):
            reels = len(case[0])
            cuts = all_cuts(case)
            counts = dict(Counter(shares_by_hand(cut, reels) for cut in cuts))
            self.assertEqual(share_counts(case), counts, case)
            self.assertEqual(share_counts(case), share_counts(case))
            self.assertTrue(all(type(part) is int for used in share_counts(case) for part in used))
            for wanted in product(range(4), repeat=reels):
                cut = cut_of_shares(case, wanted)
                self.assertEqual(cut, cut_of_shares(case, wanted))
                if wanted in counts:
                    self.assertIn(cut, cuts, (case, wanted))
                    self.assertEqual(shares_by_hand(cut, reels), wanted)
                else:
                    self.assertIsNone(cut, (case, wanted))
            found.append(len(counts))
        for many in (0, 1, 2, 3):
            self.assertGreater(found.count(many), 5)

    def test_none_and_no_frames(self):
        self.assertEqual((share_counts(BACK), cut_of_shares(BACK, (2,)), cut_of_shares(BACK, (1,))), ({}, None, None))
        case = ((('ab', 2, False), ('c', 1, True)), (), ())
        self.assertEqual((share_counts(case), cut_of_shares(case, (0, 0))), ({(0, 0): 1}, ()))
        case = ((('ab', 2, False), ('c', 0, True)), (), ())
        self.assertEqual((share_counts(case), cut_of_shares(case, (0, 0))), ({}, None))

    def test_wanted_that_no_cut_has(self):
        for case, least in [(CASE, (3, 2)), ((FULL, OPEN_TAPE, ()), (4, 4, 4, 4)), ((LOSSY, OPEN_TAPE, ()), (5, 4, 4, 3))]:
            reels = len(case[0])
            self.assertTrue(is_cut(case, cut_of_shares(case, least)))
            for changed in product((-1, 0, 1), repeat=reels):
                wanted = tuple(a + b for a, b in zip(least, changed))
                if wanted != least and min(wanted) >= 0:
                    expected = wanted in share_counts(case)
                    self.assertEqual(cut_of_shares(case, wanted) is not None, expected, wanted)
            for other in [(0,) * reels, (16,) + (0,) * (reels - 1), (10 ** 29,) * reels, (17,) * reels]:
                self.assertIsNone(cut_of_shares(case, other))

    def test_loss_bounds_what_a_reel_gives(self):
        case = ((('abcd', 1, False), ('abcd', 4, False)), ('?',) * 4, ())
        self.assertEqual(sorted(share_counts(case)), [(3, 1), (4, 0)])
        self.assertEqual([cut_of_shares(case, wanted) is None for wanted in [(2, 2), (0, 4), (3, 1), (4, 0), (5, 0)]],
                         [True, True, False, False, True])

    def test_very_many(self):
        self.assertEqual(share_counts((FULL, OPEN_TAPE, ())), {(4, 4, 4, 4): 63063000})
        stock = (('abcdefghij', 4, False), ('abcdefghij', 1, False))
        counts = share_counts((stock, OPEN_TAPE, ()))
        self.assertEqual(sorted(counts), [(6, 10), (7, 9)])
        self.assertEqual(counts[(6, 10)], 8008 * 210)
        self.assertEqual(counts[(7, 9)], 11440 * 120 * 10)

    def test_large(self):
        chance = random.Random(93)
        for case in large_cases() + [(TURNING, OPEN_TAPE[:15], ()), ((('abcdefghij', 9, True),), OPEN_TAPE[:7], ())]:
            reels = len(case[0])
            counts, many = share_counts(case), count_cuts(case)
            self.assertEqual(sum(counts.values()), many)
            for used in counts:
                cut = cut_of_shares(case, used)
                self.assertTrue(stands(case, cut))
                self.assertEqual(shares(cut, reels), used)
            for _ in range(10 if many else 0):
                self.assertIn(shares(nth_cut(case, chance.randrange(many)), reels), counts)
            for wanted in product((3, 4, 5, 7), repeat=reels):
                if wanted not in counts:
                    self.assertIsNone(cut_of_shares(case, wanted))

    def test_results_are_new(self):
        for case in (CASE, BACK, (LONG, OPEN_TAPE, ())):
            before = repr(case)
            kept = dict(share_counts(case))
            share_counts(case)[(9, 9)] = 7
            share_counts(case).clear()
            self.assertEqual(share_counts(case), kept)
            self.assertEqual(repr(case), before)


if __name__ == '__main__':
    unittest.main()
