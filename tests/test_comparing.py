"""Stage 11: comparing."""

import random
import unittest

from reelsplice.comparing import find_only, implies, narrowed, same_cuts
from reelsplice.counts import count_cuts, nth_cut
from reelsplice.cuts import is_cut
from reelsplice.possible import possible, signs_of
from tests.helper import (BACK, CASE, FULL, LONG, LOSSY, OPEN_TAPE, TURNING, all_cuts, large_cases, random_cases,
                          random_frame, random_saying, stands)

CONTRARY = {'same': 'apart', 'apart': 'same', 'of': 'off', 'off': 'of'}


def read_further(chance, tape):
    """A tape with some frames read further."""
    found = []
    for frame in tape:
        letters = 'abc' if frame == '?' else frame
        found.append(''.join(sign for sign in letters if chance.random() < 0.7) if chance.random() < 0.4 else frame)
    return tuple(found)


def others(chance, case):
    """Cases of the same stock and as many frames."""
    stock, tape, sayings = case
    yield case
    yield (stock, read_further(chance, tape), sayings)
    yield (stock, tuple(random_frame(chance) for _ in tape), sayings)
    yield (stock, ('?',) * len(tape), ())
    yield (stock, ('',) * len(tape), sayings)
    yield (stock, tape, sayings[1:])
    yield (stock, tape, sayings[::-1])
    yield (stock, tape, tuple((CONTRARY[word], j, other) for word, j, other in sayings))
    if tape:
        more = tuple(random_saying(chance, len(tape), len(stock)) for _ in range(4))
        yield (stock, tape, (sayings + more)[:4])
        yield (stock, tape, more)
        yield (stock, read_further(chance, tape), more[:2])


class Comparing(unittest.TestCase):

    def check(self, case, other, only, back):
        """only, back: the cuts of one of the two alone."""
        before = repr((case, other))
        found = find_only(case, other)
        self.assertEqual(found, find_only(case, other))
        if only:
            self.assertIn(found, only, (case, other))
        else:
            self.assertIsNone(found, (case, other))
        self.assertIs(implies(case, other), not only, (case, other))
        self.assertIs(same_cuts(case, other), not only and not back, (case, other))
        self.assertEqual(repr((case, other)), before)

    def test_by_trying(self):
        chance = random.Random(111)
        told = []
        for case in random_cases(112, 150):
            cuts = set(all_cuts(case))
            for other in others(chance, case):
                its_cuts = set(all_cuts(other))
                self.check(case, other, cuts - its_cuts, its_cuts - cuts)
                self.check(other, case, its_cuts - cuts, cuts - its_cuts)
                if cuts and its_cuts:
                    told.append((cuts <= its_cuts, its_cuts <= cuts))
        for expected in [(True, True), (True, False), (False, True), (False, False)]:
            self.assertGreater(told.count(expected), 20)

    def test_one_saying(self):
        stock, tape = (('ab', 2, False), ('ab', 2, False)), ('a', '?', 'b')
        for told in [('same', 0, 2), ('apart', 0, 2), ('of', 1, 1), ('off', 1, 1)]:
            case, bare = (stock, tape, (told,)), (stock, tape, ())
            against = (stock, tape, ((CONTRARY[told[0]],) + told[1:],))
            cuts = [set(all_cuts(one)) for one in (case, bare, against)]
            self.check(case, bare, set(), cuts[2])
            self.check(bare, case, cuts[2], set())
            self.check(case, against, cuts[0], cuts[2])

    def test_sayings_that_follow_from_others(self):
        for stock in (FULL, LOSSY):
            told = (('same', 0, 13), ('same', 13, 15), ('apart', 1, 14), ('apart', 2, 12))
            case = (stock, OPEN_TAPE, told)
            self.assertIs(implies(case, (stock, OPEN_TAPE, (('same', 0, 15),))), True)
            self.assertIs(implies(case, (stock, OPEN_TAPE, (('same', 0, 15), ('apart', 1, 13)))), False)
            found = find_only(case, (stock, OPEN_TAPE, (('apart', 1, 13), ('same', 0, 15))))
            self.assertTrue(stands(case, found))
            self.assertEqual(found[1][0], found[13][0])

    def test_no_cuts(self):
        none = (CASE[0], CASE[1], (('of', 0, 1),))
        self.check(none, CASE, set(), set(all_cuts(CASE)))
        self.check(CASE, none, set(all_cuts(CASE)), set())
        self.check(none, (CASE[0], ('',) * 5, ()), set(), set())
        for loss in (1, 2):
            bare = ((('ab', loss, False),), (), ())
            self.check(bare, bare, set(), set())

    def test_large(self):
        chance = random.Random(113)
        for case in large_cases():
            stock, tape, sayings = case
            self.assertIs(implies(case, case), True)
            self.assertIs(implies(case, (stock, OPEN_TAPE, ())), True)
            self.assertIs(implies(case, (stock, tape, sayings[:2])), True)
            self.assertIs(same_cuts(case, (stock, tape, sayings[::-1])), True)
            many = count_cuts(case)
            for _ in range(4):
                told = tuple(random_saying(chance, 16, len(stock)) for _ in range(2))
                other = (stock, OPEN_TAPE, told)
                # as many cuts hold the other case's sayings, too
                both = count_cuts((stock, tape, sayings + told))
                self.assertIs(implies(case, other), both == many)
                found = find_only(case, other)
                if found is not None:
                    self.assertTrue(is_cut(case, found))
                    self.assertFalse(is_cut(other, found))
            if many:
                found = nth_cut(case, many - 1)
                lacking = tuple('' if k == 7 else '?' for k in range(16))
                self.assertTrue(is_cut(case, find_only(case, (stock, lacking, ()))))
                exact = tuple(stock[r][0][p] for r, p in found)
                only = find_only(case, (stock, exact, ()))
                if only is not None:
                    self.assertTrue(is_cut(case, only))
                    self.assertNotEqual(tuple(stock[r][0][p] for r, p in only), exact)


class Narrowed(unittest.TestCase):

    def test_by_trying(self):
        for case in random_cases(114, 250):
            stock, tape, sayings = case
            cuts = all_cuts(case)
            narrow = narrowed(case)
            signs = tuple(''.join(sorted({stock[r][0][p] for r, p in frame})) for frame in
                          [{cut[k] for cut in cuts} for k in range(len(tape))])
            self.assertEqual(repr(narrow), repr((stock, signs, sayings)))
            self.assertEqual(all_cuts(narrow), cuts)
            self.assertIs(same_cuts(case, narrow), True)
            self.assertEqual(narrowed(narrow), narrow)

    def test_without_a_cut(self):
        self.assertEqual(narrowed(BACK), (BACK[0], ('', ''), ()))
        case = (FULL, OPEN_TAPE[:15] + ('z',), (('same', 0, 1),))
        self.assertEqual(narrowed(case), (FULL, ('',) * 16, (('same', 0, 1),)))
        self.assertIs(same_cuts(case, narrowed(case)), True)
        self.assertEqual(narrowed(((('ab', 1, False),), (), ())), ((('ab', 1, False),), (), ()))

    def test_large(self):
        for case in large_cases() + [(TURNING, OPEN_TAPE[:15], ()), (LONG, OPEN_TAPE, (('of', 3, 1),))]:
            before = repr(case)
            narrow = narrowed(case)
            self.assertEqual(narrow, (case[0], signs_of(case), case[2]))
            self.assertEqual(possible(narrow), possible(case))
            self.assertEqual(count_cuts(narrow), count_cuts(case))
            self.assertIs(same_cuts(case, narrow), True)
            self.assertEqual(repr(case), before)


if __name__ == '__main__':
    unittest.main()
