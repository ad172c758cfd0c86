"""Stage 3: cuts."""

import random
import unittest
from itertools import product

from reelsplice.cases import is_case
from reelsplice.cuts import find_cut, is_cut
from tests.helper import (BACK, CASE, FULL, LONG, LOSSY, ODD, OPEN_TAPE, TURNING, all_cuts, large_cases, parts_changed,
                          random_cases, stands)

CUT = ((0, 0), (0, 1), (1, 0), (1, 1), (0, 2))


class IsCut(unittest.TestCase):

    def check(self, expected, case, *values):
        self.assertTrue(is_case(case))
        for value in values:
            self.assertIs(is_cut(case, value), expected, (case, value))

    def test_places(self):
        case = ((('aaa', 1, False),), ('?', '?'), ())
        self.check(True, case, ((0, 0), (0, 1)), ((0, 0), (0, 2)), ((0, 1), (0, 2)))
        self.check(False, case, ((0, 0), (0, 0)), ((0, 1), (0, 0)), ((0, 2), (0, 1)), ((0, 2), (0, 2)))

    def test_turning(self):
        case = ((('aaaa', 1, True),), ('?', '?', '?'), ())
        self.check(True, case, ((0, 0), (0, 1), (0, 3)), ((0, 3), (0, 1), (0, 0)))
        self.check(False, case, ((0, 0), (0, 2), (0, 1)), ((0, 2), (0, 1), (0, 3)), ((0, 2), (0, 1), (0, 1)))

    def test_a_turning_reel_beside_one_that_does_not(self):
        case = ((('ab', 0, True), ('ab', 0, False)), ('?',) * 4, ())
        self.check(True, case, ((0, 1), (1, 0), (0, 0), (1, 1)), ((0, 0), (1, 0), (1, 1), (0, 1)))
        self.check(False, case, ((0, 1), (1, 1), (0, 0), (1, 0)), ((0, 0), (1, 1), (0, 1), (1, 0)))

    def test_too_many_left_out(self):
        for loss in range(4):
            for used in range(4):
                case = ((('abc', loss, False), ('xxxx', 4, False)), ('?',) * 4, ())
                cut = tuple((0, p) for p in range(used)) + tuple((1, p) for p in range(4 - used))
                self.check(3 - used <= loss, case, cut)

    def test_signs(self):
        case = ((('abc', 0, False),), ('?', 'abd', 'c'), ())
        self.check(True, case, ((0, 0), (0, 1), (0, 2)))
        for frame in ['', 'b', 'a', 'bd', 'abde']:
            self.check(False, (case[0], ('?', 'abd', frame), ()), ((0, 0), (0, 1), (0, 2)))
        self.check(False, (case[0], ('?', 'acd', '?'), ()), ((0, 0), (0, 1), (0, 2)))

    def test_each_kind_of_saying(self):
        stock = (('aaaa', 4, False), ('bbbb', 4, False))
        for told, reels in [(('same', 0, 2), lambda a: a[0] == a[2]), (('apart', 1, 3), lambda a: a[1] != a[3]),
                            (('of', 2, 1), lambda a: a[2] == 1), (('off', 3, 0), lambda a: a[3] != 0)]:
            for chosen in product((0, 1), repeat=4):
                cut = tuple((r, k) for k, r in enumerate(chosen))
                self.check(reels(chosen), (stock, ('?',) * 4, (told,)), cut)
                self.check(reels(chosen), (stock, ('?',) * 4, (told, told, ('off', 0, 1))[:2]), cut)

    def test_all_sayings_count(self):
        stock, tape = CASE[:2]
        self.check(True, (stock, tape, (('same', 0, 1), ('apart', 1, 2), ('of', 4, 0), ('off', 3, 0))), CUT)
        self.check(False, (stock, tape, (('same', 0, 1), ('apart', 1, 2), ('of', 4, 0), ('off', 3, 1))), CUT)

    def test_how_many_pairs(self):
        self.check(True, CASE, CUT)
        self.check(False, CASE, CUT[:4], CUT + ((0, 2),), CUT + (None,), (), CUT * 2)
        empty = ((('ab', 2, False),), (), ())
        self.check(True, empty, ())
        self.check(False, empty, ((0, 0),), [], None, (None,))
        self.check(False, ((('ab', 1, False),), (), ()), ())

    def test_reels_and_places_that_there_are_not(self):
        case = ((('aa', 2, False), ('a', 1, False)), ('?',), ())
        self.check(True, case, ((0, 0),), ((0, 1),), ((1, 0),))
        self.check(False, case, ((0, 2),), ((1, 1),), ((2, 0),), ((-1, 0),), ((0, -1),), ((1, -1),), ((10 ** 29, 0),))

    def test_other_forms(self):
        self.check(False, CASE, list(CUT), [list(pair) for pair in CUT], tuple(list(pair) for pair in CUT))
        self.check(False, CASE, tuple((r == 1, p) for r, p in CUT), tuple((r, p == 1) for r, p in CUT[:3]) + CUT[3:])
        self.check(False, CASE, tuple((r, p, 0) for r, p in CUT), tuple((p,) for _, p in CUT), dict(enumerate(CUT)))
        self.check(False, CASE, ((0, 0), (0, 1), None, (1, 1), (0, 2)), ((None, 0),) + CUT[1:], ('00',) + CUT[1:])
        self.check(False, CASE, *parts_changed(CUT))

    def test_truths(self):
        case = ((('aa', 1, False), ('a', 1, False)), ('?', '?'), ())
        self.check(True, case, ((0, 0), (0, 1)), ((0, 1), (1, 0)))
        self.check(False, case, ((False, 0), (0, 1)), ((0, False), (0, 1)), ((0, 0), (0, True)), ((0, 1), (True, 0)))

    def test_other_values(self):
        self.check(False, CASE, *ODD)
        self.check(False, CASE, *[CUT[:2] + (value,) + CUT[3:] for value in ODD])
        self.check(False, CASE, *[CUT[:2] + ((1, value),) + CUT[3:] for value in ODD if value != 0])

    def test_by_trying(self):
        for case in random_cases(11, 150, frames=4, places=5):
            pairs = [(r, p) for r, reel in enumerate(case[0]) for p in range(len(reel[0]))]
            for tried in product(pairs, repeat=len(case[1])):
                self.assertIs(is_cut(case, tried), stands(case, tried), (case, tried))


class FindCut(unittest.TestCase):

    def test_by_trying(self):
        found = 0
        for case in random_cases(12, 400):
            cuts = all_cuts(case)
            cut = find_cut(case)
            if cuts:
                found += 1
                self.assertIn(cut, cuts, case)
                self.assertTrue(is_cut(case, cut))
            else:
                self.assertIsNone(cut, case)
            self.assertEqual(cut, find_cut(case))
        self.assertTrue(100 < found < 300, found)

    def test_no_frames(self):
        self.assertEqual(find_cut(((('ab', 2, True),), (), ())), ())
        self.assertIsNone(find_cut(((('ab', 1, True),), (), ())))

    def test_large(self):
        chance = random.Random(13)
        for stock in (FULL, LOSSY, TURNING, LONG):
            size = sum(len(reel[0]) for reel in stock)
            frames = min(16, size)
            for _ in range(30):
                case = self.told_by_a_cut(chance, stock, frames)
                cut = find_cut(case)
                self.assertTrue(stands(case, cut), case)
                self.assertTrue(is_cut(case, cut), case)
                self.assertEqual(cut, find_cut(case))

    def told_by_a_cut(self, chance, stock, frames):
        """A case that has a cut, since its tape and sayings are read off one."""
        places = {r: list(range(len(reel[0]))) for r, reel in enumerate(stock)}
        spare = sum(len(reel[0]) for reel in stock) - frames
        for r, reel in enumerate(stock):
            for _ in range(min(spare, reel[1])):
                places[r].remove(chance.choice(places[r]))
                spare -= 1
            if reel[2] and chance.random() < 0.5:
                places[r].reverse()
        cut = []
        while any(places.values()):
            r = chance.choice([r for r in places if places[r]])
            cut.append((r, places[r].pop(0)))
        signs = [stock[r][0][p] for r, p in cut]
        tape = tuple(chance.choice(['?', sign, ''.join(sorted({sign, 'm'}))]) for sign in signs)
        sayings = []
        for _ in range(chance.randint(0, 4)):
            j, k = sorted(chance.sample(range(len(cut)), 2))
            sayings.append(('same' if cut[j][0] == cut[k][0] else 'apart', j, k))
        case = (stock, tape, tuple(sayings))
        self.assertTrue(is_case(case))
        self.assertTrue(stands(case, cut))
        return case

    def test_large_with_products_up_to_600(self):
        stock = (('abcde', 0, False), ('abcde', 0, False), ('abcdef', 3, False), ('a', 0, False))
        tape = ('a', '?', 'b', '?', '?', '?', 'ad', '?', 'ce', '?', '?', '?', '?', '?')
        for case in [(stock, tape, ()), (stock, tape, (('apart', 0, 1), ('apart', 1, 13), ('off', 5, 1)))]:
            self.assertTrue(is_case(case))
            self.assertTrue(stands(case, find_cut(case)))
        for case in large_cases():
            cut = find_cut(case)
            if cut is not None:
                self.assertTrue(stands(case, cut))

    def test_large_without_a_cut(self):
        sayings = tuple(('apart', j, 15) for j in range(4))
        for stock in (FULL, LOSSY, LONG):
            self.assertIsNone(find_cut((stock, OPEN_TAPE[:15] + ('z',), sayings)))
            self.assertIsNone(find_cut((stock, ('',) + OPEN_TAPE[:15], ())))
        self.assertIsNone(find_cut((FULL, OPEN_TAPE[:15], ())))
        # of the last four frames one would have to be of no reel
        self.assertIsNone(find_cut((FULL, OPEN_TAPE, tuple(('off', 15, r) for r in range(4)))))
        self.assertIsNotNone(find_cut((FULL, OPEN_TAPE, sayings)))

    def test_results_are_tuples_of_pairs(self):
        for case in random_cases(14, 100):
            cut = find_cut(case)
            if cut is not None:
                self.assertIs(type(cut), tuple)
                for pair in cut:
                    self.assertEqual([type(pair)] + [type(part) for part in pair], [tuple, int, int])

    def test_arguments_stay(self):
        for case in [CASE, BACK]:
            before = repr(case)
            value = [list(pair) for pair in CUT]
            find_cut(case)
            is_cut(case, value)
            self.assertEqual((repr(case), value), (before, [list(pair) for pair in CUT]))


if __name__ == '__main__':
    unittest.main()
