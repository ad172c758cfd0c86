"""Stage 12: reading on."""

import random
import unittest
from collections import Counter
from itertools import product

from reelsplice.cases import is_tape
from reelsplice.counts import count_cuts
from reelsplice.possible import signs_of
from reelsplice.reading import best_frame, merged, sign_counts
from tests.helper import BACK, CASE, FULL, LONG, LOSSY, OPEN_TAPE, TURNING, all_cuts, large_cases, random_cases

FRAMES = ['?', '', 'a', 'b', 'z', 'ab', 'bc', 'az', 'abc', 'bcdz', 'abcdefghijklmnopqrstuvwxyz']


def merged_by_words(frame, other):
    if '?' in (frame, other):
        return other if frame == '?' else frame
    return ''.join(sorted(set(frame) & set(other)))


def counts_by_trying(case, k):
    return dict(Counter(case[0][cut[k][0]][0][cut[k][1]] for cut in all_cuts(case)))


def best_by_words(counts):
    asked = [(max(found.values()), k) for k, found in enumerate(counts) if len(found) >= 2]
    return min(asked)[1] if asked else None


class Merged(unittest.TestCase):

    def test_frames_of_all_forms(self):
        for one, other in product(FRAMES, repeat=2):
            expected = (merged_by_words(one, other),)
            self.assertEqual(merged((one,), (other,)), expected)
            self.assertTrue(is_tape(expected))
        self.assertEqual(merged(('?',), ('?',)), ('?',))
        self.assertEqual([merged(('',), ('?',)), merged(('?',), ('',)), merged(('',), ('a',))], [('',), ('',), ('',)])

    def test_tapes(self):
        chance = random.Random(121)
        for length in range(17):
            for _ in range(20):
                one, other = [tuple(chance.choice(FRAMES) for _ in range(length)) for _ in range(2)]
                expected = tuple(merged_by_words(a, b) for a, b in zip(one, other))
                self.assertEqual(merged(one, other), expected)
                self.assertEqual(merged(other, one), expected)
                self.assertEqual(merged(one, one), one)
        self.assertEqual(merged((), ()), ())

    def test_a_cut_of_both_is_one_of_the_merged_tape(self):
        chance = random.Random(122)
        for case in random_cases(123, 100):
            stock, tape, sayings = case
            other = tuple(chance.choice(FRAMES[:5]) for _ in tape)
            both = [cut for cut in all_cuts(case) if cut in all_cuts((stock, other, sayings))]
            self.assertEqual(all_cuts((stock, merged(tape, other), sayings)), both)


class Signs(unittest.TestCase):

    def test_by_trying(self):
        best = []
        for case in random_cases(124, 300):
            before = repr(case)
            counts = [counts_by_trying(case, k) for k in range(len(case[1]))]
            for k, found in enumerate(counts):
                self.assertEqual(sign_counts(case, k), found, (case, k))
                self.assertTrue(all(type(many) is int for many in sign_counts(case, k).values()))
            self.assertEqual(best_frame(case), best_by_words(counts), case)
            self.assertEqual(best_frame(case), best_frame(case))
            self.assertEqual(repr(case), before)
            best.append(best_frame(case))
        for k in (None, 0, 1, 2):
            self.assertGreater(best.count(k), 5)

    def test_without_a_cut(self):
        self.assertEqual([sign_counts(BACK, 0), sign_counts(BACK, 1), best_frame(BACK)], [{}, {}, None])
        case = (FULL, OPEN_TAPE[:15] + ('',), ())
        self.assertEqual((sign_counts(case, 3), best_frame(case)), ({}, None))
        self.assertIsNone(best_frame(((('ab', 2, False),), (), ())))

    def test_one_sign_only(self):
        case = ((('aa', 1, False), ('a', 1, True)), ('?', '?'), ())
        self.assertEqual([sign_counts(case, 0), sign_counts(case, 1), best_frame(case)], [{'a': 5}, {'a': 5}, None])
        case = ((('ab', 0, False),), ('?', '?'), ())
        self.assertEqual([sign_counts(case, 0), sign_counts(case, 1), best_frame(case)], [{'a': 1}, {'b': 1}, None])

    def test_several_frames_alike(self):
        case = ((('ab', 0, True),), ('?', '?'), ())
        self.assertEqual([sign_counts(case, 0), sign_counts(case, 1)], [{'a': 1, 'b': 1}] * 2)
        self.assertEqual(best_frame(case), 0)
        # the first frame is read, so the next two are alike
        case = ((('a', 0, False), ('bc', 0, True)), ('a', '?', '?'), ())
        self.assertEqual(best_frame(case), 1)

    def test_the_greatest_number_counts(self):
        # two signs as often each settle more than three of which one is frequent
        case = ((('abcd', 2, False), ('ab', 1, True)), ('?', '?', '?'), ())
        counts = [counts_by_trying(case, k) for k in range(3)]
        self.assertEqual(best_frame(case), best_by_words(counts))
        self.assertEqual([sign_counts(case, k) for k in range(3)], counts)

    def test_large(self):
        for case in large_cases() + [(TURNING, OPEN_TAPE[:15], ())]:
            stock, tape, sayings = case
            many, signs = count_cuts(case), signs_of(case)
            counts = [sign_counts(case, k) for k in range(len(tape))]
            self.assertEqual(best_frame(case), best_by_words(counts))
            for k, found in enumerate(counts):
                self.assertEqual(''.join(sorted(found)), signs[k])
                self.assertEqual(sum(found.values()), many)
            for sign, number in counts[7].items():
                self.assertEqual(count_cuts((stock, tape[:7] + (sign,) + tape[8:], sayings)), number)

    def test_results_are_new(self):
        for case in (CASE, BACK, (LOSSY, OPEN_TAPE, ()), (LONG, OPEN_TAPE, ())):
            kept = dict(sign_counts(case, 1))
            sign_counts(case, 1)['z'] = 7
            sign_counts(case, 1).clear()
            self.assertEqual(sign_counts(case, 1), kept)


if __name__ == '__main__':
    unittest.main()
