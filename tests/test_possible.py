"""Stage 6: what is possible."""

import unittest

from reelsplice.counts import count_cuts, nth_cut
from reelsplice.possible import possible, signs_of, sure_frames
from tests.helper import BACK, CASE, FULL, LOSSY, OPEN_TAPE, all_cuts, large_cases, random_cases


class Possible(unittest.TestCase):

    def test_by_trying(self):
        for case in random_cases(41, 400):
            stock, tape, _ = case
            cuts = all_cuts(case)
            pairs = [sorted({cut[k] for cut in cuts}) for k in range(len(tape))]
            signs = tuple(''.join(sorted({stock[r][0][p] for r, p in found})) for found in pairs)
            self.assertEqual(repr(possible(case)), repr(pairs), case)
            self.assertEqual(repr(signs_of(case)), repr(signs), case)
            self.assertEqual(sure_frames(case), [k for k, found in enumerate(pairs) if len(found) == 1], case)

    def test_no_cut(self):
        self.assertEqual((possible(BACK), signs_of(BACK), sure_frames(BACK)), ([[], []], ('', ''), []))
        case = (FULL, OPEN_TAPE[:15] + ('',), ())
        self.assertEqual((possible(case), signs_of(case), sure_frames(case)), ([[]] * 16, ('',) * 16, []))

    def test_no_frames(self):
        for loss in (1, 2):
            case = ((('ab', loss, False),), (), ())
            self.assertEqual((possible(case), signs_of(case), sure_frames(case)), ([], (), []))

    def test_signs_that_a_reel_has_twice(self):
        case = ((('aa', 1, False),), ('?',), ())
        self.assertEqual((possible(case), signs_of(case), sure_frames(case)), ([[(0, 0), (0, 1)]], ('a',), []))

    def test_open_tape(self):
        found = possible((FULL, OPEN_TAPE, ()))
        for k in range(16):
            # behind k frames no reel can have come further than k, nor have more left than there are frames
            places = [p for p in range(4) if p <= k and 3 - p <= 15 - k]
            self.assertEqual(found[k], [(r, p) for r in range(4) for p in places])
        self.assertEqual(sure_frames((FULL, OPEN_TAPE, ())), [])
        self.assertEqual(signs_of((FULL, OPEN_TAPE, ()))[0], 'a')

    def test_large_by_counting(self):
        for case in large_cases():
            stock, tape, sayings = case
            found, many = possible(case), count_cuts(case)
            self.assertEqual(len(found), 16)
            for k in (0, 7, 15):
                for r in range(len(stock)):
                    # a saying more that only cuts with this reel hold
                    told = (sayings + (('of', k, r),))[-4:]
                    if len(sayings) < 4:
                        possible_reel = count_cuts((stock, tape, told)) > 0
                        self.assertEqual(possible_reel, any(pair[0] == r for pair in found[k]), (case, k, r))
            if many:
                for n in (0, many // 3, many - 1):
                    for k, pair in enumerate(nth_cut(case, n)):
                        self.assertIn(pair, found[k])
            for pairs in found:
                self.assertEqual(pairs, sorted(set(pairs)))

    def test_results_are_new(self):
        first = possible(CASE)
        first[1].append('more')
        first.append([])
        sure_frames(CASE).append(7)
        self.assertEqual(possible(CASE), [[(0, 0)], [(0, 1), (1, 0)], [(0, 1), (1, 0)], [(1, 1)], [(0, 2)]])
        self.assertEqual(sure_frames(CASE), [0, 3, 4])
        nothing = possible(BACK)
        nothing[0].append('more')
        self.assertEqual(nothing[1], [])
        self.assertEqual(possible(BACK), [[], []])

    def test_equal_results_and_arguments_stay(self):
        for case in random_cases(42, 20) + [(LOSSY, OPEN_TAPE, ())]:
            before = repr(case)
            self.assertEqual(possible(case), possible(case))
            self.assertEqual(signs_of(case), signs_of(case))
            self.assertEqual(repr(case), before)


if __name__ == '__main__':
    unittest.main()
