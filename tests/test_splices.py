"""Stage 9: splices."""

import random
import unittest

from reelsplice.counts import count_cuts, nth_cut
from reelsplice.cuts import find_cut, is_cut
from reelsplice.splices import cut_with, find_splice_values, shows_splices, splice_counts, splices
from tests.helper import (BACK, CASE, FULL, LONG, LOSSY, OPEN_TAPE, TURNING, ValuesChecks, all_cuts, all_joined,
                          ends_by_words, joined_steps, large_cases, random_cases, shown_by_words, stands)

START = ((((0, -1, 0),), ()), -1)


def splices_by_hand(cut):
    reels = [r for r, _ in cut]
    return [k for k in range(len(reels)) if k and reels[k] != reels[k - 1]]


class Splices(unittest.TestCase):

    def test_of_any_length(self):
        chance = random.Random(81)
        self.assertEqual([splices(()), splices(((3, 2),)), splices(((0, 0), (0, 1)))], [[], [], []])
        self.assertEqual([splices(((0, 0), (1, 0))), splices(((1, 0), (0, 0), (1, 1)))], [[1], [1, 2]])
        for length in range(17):
            for _ in range(20):
                cut = tuple((chance.randrange(3), chance.randrange(9)) for _ in range(length))
                self.assertEqual(splices(cut), splices_by_hand(cut))
                self.assertEqual(splices(cut), splices(cut))

    def test_places_do_not_matter(self):
        self.assertEqual(splices(((0, 0), (0, 5), (0, 2), (0, 2))), [])
        self.assertEqual(splices(((0, 1), (1, 1), (1, 1), (2, 1))), [1, 3])

    def test_results_are_new(self):
        cut = ((0, 0), (1, 0))
        splices(cut).append(7)
        self.assertEqual(splices(cut), [1])


class Numbers(unittest.TestCase):

    def check(self, case, counts):
        self.assertEqual(repr(splice_counts(case)), repr(counts), case)
        for n in list(range(20)) + [10 ** 29]:
            cut = cut_with(case, n)
            self.assertEqual(cut, cut_with(case, n))
            if n in counts:
                self.assertTrue(is_cut(case, cut), (case, n))
                self.assertTrue(stands(case, cut), (case, n))
                self.assertEqual(len(splices_by_hand(cut)), n, (case, n))
            else:
                self.assertIsNone(cut, (case, n))

    def test_by_trying(self):
        found = []
        for case in random_cases(82, 300):
            counts = sorted({len(splices_by_hand(cut)) for cut in all_cuts(case)})
            self.check(case, counts)
            found.append(len(counts))
        for many in (0, 1, 2, 3):
            self.assertGreater(found.count(many), 5)

    def test_none_and_no_frames(self):
        self.check(BACK, [])
        self.check(((('ab', 2, False),), (), ()), [0])
        self.check(((('ab', 1, False),), (), ()), [])
        self.check((FULL, OPEN_TAPE[:15] + ('',), ()), [])

    def test_open_tapes(self):
        # four frames of each of four reels: from all in turn to each beside others
        self.check((FULL, OPEN_TAPE, ()), list(range(3, 16)))
        self.check(((('abcdefghij', 4, False),), OPEN_TAPE[:8], ()), [0])
        # of thirteen and three frames the three stand together, at an end or within, or apart
        self.check(((('abcdefghij', 0, False), ('abc', 0, False)), OPEN_TAPE[:13], ()), list(range(1, 7)))

    def test_sayings(self):
        case = (FULL, OPEN_TAPE, (('apart', 0, 1), ('apart', 1, 2), ('same', 0, 2), ('apart', 2, 3)))
        counts = splice_counts(case)
        self.assertEqual((counts[0], counts[-1]), (6, 15))
        self.check(case, counts)

    def test_large(self):
        chance = random.Random(83)
        for case in large_cases():
            counts, many = splice_counts(case), count_cuts(case)
            self.check(case, counts)
            self.assertEqual(counts == [], many == 0)
            for _ in range(10 if many else 0):
                self.assertIn(len(splices(nth_cut(case, chance.randrange(many)))), counts)

    def test_results_are_new(self):
        for case in (CASE, BACK):
            before = repr(case), splice_counts(case)
            splice_counts(case).append('more')
            splice_counts(case).clear()
            self.assertEqual((repr(case), splice_counts(case)), before)


class SpliceValues(ValuesChecks, unittest.TestCase):

    some_cases = random_cases(84, 200, frames=4, places=5)
    two_cases = [CASE, BACK]
    told_case = ((('ab', 1, True), ('bb', 1, False)), ('?', 'b', '?'), (('same', 0, 2), ('apart', 1, 2)))

    def find(self, case):
        return find_splice_values(case)

    def least(self, case):
        return min(splice_counts(case), default=None)

    def shown(self, case, value, number):
        return shows_splices(case, value, number)

    def by_words(self, case, values, number):
        return shown_by_words(values, number, ((((0, -1, 0),) * len(case[0]), ()), -1),
                              lambda k, joined: joined_steps(case, k, joined),
                              lambda joined: ends_by_words(case, joined[0]))

    def keys(self, case, k):
        return all_joined(case, k)

    def test_without_a_cut_each_number_is_shown(self):
        found = 0
        for case in self.some_cases:
            if find_cut(case) is None:
                found += 1
                self.check(True, case, find_splice_values(case), 0, 1, 16, 10 ** 29)
        self.assertGreater(found, 40)

    def test_another_reel(self):
        for case in self.some_cases[:60]:
            values = find_splice_values(case)
            for k, part in enumerate(values):
                for (row, r), v in part.items():
                    rest = {key: other for key, other in part.items() if key != (row, r)}
                    for reel in range(-2, len(case[0]) + 1):
                        if reel != r:
                            changed = self.with_dict(values, k, {**rest, (row, reel): v})
                            self.check(False, case, changed, 0)
                            more = self.with_dict(values, k, {**part, (row, reel): v})
                            if (row, reel) in self.keys(case, k):
                                self.check(self.by_words(case, more, 1), case, more, 1)
                            else:
                                self.check(False, case, more, 0)

    def test_reels_of_no_frame_are_rows_too(self):
        # any reel may stand beside a row, also one that it has not used
        case = ((('a', 0, False), ('b', 1, False)), ('a',), ())
        first, one = (((0, -1, 0), (0, -1, 0)), ()), (((1, 0, 0), (0, -1, 0)), ())
        self.check(True, case, [{(first, -1): 0}, {(one, 0): 0}], 0)
        self.check(True, case, [{(first, -1): 0}, {(one, 0): 0, (one, 1): 0}], 0)
        self.check(False, case, [{(first, -1): 0}, {(one, 0): 0, (one, 2): 0}], 0)
        self.check(False, case, [{(first, -1): 0}, {(one, 0): 0, (one, -1): 0}], 0)
        self.check(False, case, [{(first, -1): 0, (first, 0): 0}, {(one, 0): 0}], 0)
        self.check(False, case, [{(first, 0): 0}, {(one, 0): 0}], 0)
        self.check(False, case, [{first: 0}, {one: 0}], 0)

    def test_truths_in_keys(self):
        case = ((('a', 0, False), ('b', 0, False)), ('a', 'b'), ())
        values = find_splice_values(case)
        one, two = (((1, 0, 0), (0, -1, 0)), ()), (((1, 0, 0), (1, 0, 0)), ())
        self.assertEqual(values[1:], [{(one, 0): 0}, {(two, 1): 1}])
        self.check(True, case, values, 0, 1)
        self.check(False, case, [values[0], {(one, False): 0}, values[2]], 0)
        self.check(False, case, [values[0], values[1], {(two, True): 1}], 0)
        for run in [(True, 0, 0), (1, False, 0), (1, 0, False)]:
            self.check(False, case, [values[0], {(((run, (0, -1, 0)), ()), 0): 0}, values[2]], 0)
        self.check(False, case, [values[0], values[1], {(two, 1): True}], 0)
        self.check(False, case, [{(START[0], -1): 0}] + values[1:], 0)

    def test_the_first_frame_is_no_splice(self):
        case = ((('a', 1, False), ('b', 1, False)), ('b',), ())
        values = find_splice_values(case)
        self.assertEqual(list(values[1].values()), [0])
        self.check(True, case, values, 0)
        self.check(False, case, values, 1)

    def test_large(self):
        for stock in (FULL, LOSSY, TURNING, LONG):
            for last in ('?', 'z'):
                self.check_large((stock, OPEN_TAPE[:15] + (last,), (('apart', 0, 14), ('same', 3, 9))))


if __name__ == '__main__':
    unittest.main()
