"""Stage 18: sure frames."""

import copy
import random
import unittest

from reelsplice.doubts import find_marked, find_parted, pairs_at, pairs_shown, verdict
from tests.helper import (LONG_WATCH, MIXED, ODD, SHORT, SIXTEEN, TURNED, WATCH, all_rows, all_whole, lists_disturbed,
                          lives, parts_changed, small_heads, steps_by_words, with_part)

UNUSED = (0, -1, 0)


def case_of(watch, head):
    return (watch[0], head, ())


def pairs_of(stock):
    return [(r, p) for r, reel in enumerate(stock) for p in range(len(reel[0]))]


def all_marked(watch, head, k, j):
    """All marked rows at j for frame k."""
    marks = pairs_of(watch[0]) if j > k else [None]
    return [(row, mark) for row in all_rows(case_of(watch, head), j) for mark in marks]


def marked_steps(watch, head, k, j, marked):
    """The marked rows to which steps from a marked row at j lead."""
    row, mark = marked
    return [(after, (r, p) if j == k else mark) for r, p, after in steps_by_words(case_of(watch, head), j, row)]


def shown_by_words(watch, head, k, table):
    """The pairs that lists show, by the words of the document, or None."""
    if len(table) != len(head) + 1 or (((UNUSED,) * len(watch[0]), ()), None) not in table[0]:
        return None
    for j, part in enumerate(table):
        there_are = all_marked(watch, head, k, j)
        if len(set(part)) != len(part) or any(marked not in there_are for marked in part):
            return None
        if j < len(head):
            for marked in part:
                if any(after not in table[j + 1] for after in marked_steps(watch, head, k, j, marked)):
                    return None
    return sorted({mark for row, mark in table[-1] if lives(watch, row)})


def closed(watch, head, k, table):
    """A marked table with all that follows from its rows."""
    found = [list(part) for part in table]
    for j in range(len(head)):
        for marked in found[j]:
            found[j + 1].extend(a for a in marked_steps(watch, head, k, j, marked) if a not in found[j + 1])
    return found


def small_frames(seed, many):
    """Watches and heads, each with each frame of the head."""
    return [(watch, head, k) for watch, head in small_heads(seed, many) for k in range(len(head))]


class Found(unittest.TestCase):

    def test_against_all(self):
        seen = {'dead': 0, 'sure': 0, 'doubt': 0}
        for watch, head, k in small_frames(181, 400):
            before = repr((watch, head))
            cuts = all_whole(watch, head)
            pairs = sorted({cut[k] for cut in cuts})
            told = 'dead' if not cuts else 'sure' if len(pairs) == 1 else 'doubt'
            seen[told] += 1
            for _ in range(2):
                self.assertEqual(pairs_at(watch, head, k), pairs, (watch, head, k))
                self.assertEqual(verdict(watch, head, k), told)
            parted = find_parted(watch, head, k)
            self.assertEqual(parted, find_parted(watch, head, k))
            if told == 'doubt':
                self.check_parted(cuts, parted, k)
            else:
                self.assertIsNone(parted)
            self.assertEqual(repr((watch, head)), before)
        self.assertGreater(min(seen.values()), 60, seen)

    def check_parted(self, cuts, parted, k):
        self.assertIs(type(parted), tuple)
        one, other = parted
        self.assertIn(one, cuts)
        self.assertIn(other, cuts)
        self.assertNotEqual(one[k], other[k])
        self.assertLess(one, other)

    def test_cuts_of_unlike_lengths(self):
        # a whole cut of one frame has place 1, one of two frames place 0
        watch = ((('ab', 1, False),), 0, 16)
        self.assertEqual(find_parted(watch, ('?',), 0), (((0, 0),), ((0, 1),)))
        watch = ((('aba', 2, False), ('b', 1, False)), 0, 16)
        parted = find_parted(watch, ('a', 'b'), 1)
        self.check_parted(all_whole(watch, ('a', 'b')), parted, 1)
        unlike = 0
        for watch, head, k in small_frames(182, 150):
            parted = find_parted(watch, head, k)
            if parted is not None:
                self.check_parted(all_whole(watch, head), parted, k)
                unlike += len(parted[0]) != len(parted[1])
        self.assertGreater(unlike, 5)

    def test_heads_of_sixteen_frames(self):
        chance = random.Random(183)
        seen = set()
        for _ in range(6):
            cut = chance.choice(all_whole(SIXTEEN, ()))
            signs = [SIXTEEN[0][r][0][p] for r, p in cut]
            head = tuple(chance.choice(['?', sign, sign]) for sign in signs)
            cuts = all_whole(SIXTEEN, head)
            for k in (0, 7, 15):
                pairs = sorted({other[k] for other in cuts})
                self.assertEqual(pairs_at(SIXTEEN, head, k), pairs)
                self.assertEqual(pairs_shown(SIXTEEN, head, k, find_marked(SIXTEEN, head, k)), pairs)
                seen.add(verdict(SIXTEEN, head, k))
                if len(pairs) > 1:
                    self.check_parted(cuts, find_parted(SIXTEEN, head, k), k)
            dead = head[:9] + ('x',) + head[10:]
            self.assertEqual([verdict(SIXTEEN, dead, k) for k in (0, 15)], ['dead', 'dead'])
            self.assertEqual(pairs_shown(SIXTEEN, dead, 3, find_marked(SIXTEEN, dead, 3)), [])
        self.assertEqual(seen, {'sure', 'doubt'})

    def test_least_and_most(self):
        stock = (('ab', 1, True), ('ca', 2, False))
        for least in range(6):
            for most in range(least, 7):
                for head in [('?',), ('?', 'a'), ('a', '?', '?'), ('?',) * 4]:
                    cuts = all_whole((stock, least, most), head)
                    for k in range(len(head)):
                        pairs = sorted({cut[k] for cut in cuts})
                        self.assertEqual(pairs_at((stock, least, most), head, k), pairs)
                        marked = find_marked((stock, least, most), head, k)
                        self.assertEqual(pairs_shown((stock, least, most), head, k, marked), pairs)

    def test_results_are_new(self):
        found = pairs_at(WATCH, ('a',), 0)
        found.append('more')
        self.assertEqual(pairs_at(WATCH, ('a',), 0), [(0, 0), (1, 0)])
        table = find_marked(WATCH, ('a', 'b'), 1)
        kept = copy.deepcopy(table)
        table[1].append('more')
        table.pop()
        self.assertEqual(find_marked(WATCH, ('a', 'b'), 1), kept)
        shown = pairs_shown(WATCH, ('a', 'b'), 1, kept)
        shown.clear()
        self.assertEqual(pairs_shown(WATCH, ('a', 'b'), 1, kept), pairs_at(WATCH, ('a', 'b'), 1))


class Marked(unittest.TestCase):

    def check(self, expected, watch, head, k, *tables):
        for table in tables:
            before = repr(table)
            self.assertEqual(repr(pairs_shown(watch, head, k, table)), repr(expected), (watch, head, k, table))
            self.assertEqual(repr(table), before)

    def test_what_is_found_shows_the_pairs(self):
        nothing = 0
        for watch, head, k in small_frames(184, 250):
            table, pairs = find_marked(watch, head, k), pairs_at(watch, head, k)
            self.assertEqual(table, find_marked(watch, head, k))
            self.check(pairs, watch, head, k, table, [part[::-1] for part in table])
            self.assertEqual(shown_by_words(watch, head, k, table), pairs)
            nothing += pairs == []
        self.assertGreater(nothing, 40)

    def test_marks_may_be_none_at_all(self):
        for watch, head, k in [(WATCH, ('b',), 0), (TURNED, ('b',), 0), (MIXED, ('m', 'm'), 1), (SHORT, ('a', 'x'), 0)]:
            self.assertEqual(pairs_at(watch, head, k), [])
            self.check([], watch, head, k, find_marked(watch, head, k))
        start = [(((UNUSED, UNUSED), ()), None)]
        self.check([], WATCH, ('b',), 0, [start, []])
        self.check(None, WATCH, ('b',), 0, [[], []], [start, start], [start], [start, [], []], [])

    def test_rows_left_out_doubled_or_in_another_order(self):
        for watch, head, k in small_frames(185, 40):
            table = find_marked(watch, head, k)
            self.check(None, watch, head, k, *lists_disturbed(table))

    def test_rows_put_in(self):
        more_pairs = alike = 0
        for watch, head, k in small_frames(186, 60):
            table, pairs = find_marked(watch, head, k), pairs_at(watch, head, k)
            for j in range(len(head) + 1):
                others = [marked for marked in all_marked(watch, head, k, j) if marked not in table[j]]
                for marked in others[:12]:
                    one = with_part(table, j, table[j] + [marked])
                    self.check(shown_by_words(watch, head, k, one), watch, head, k, one)
                    more = closed(watch, head, k, one)
                    expected = shown_by_words(watch, head, k, more)
                    self.assertIsNotNone(expected)
                    self.check(expected, watch, head, k, more)
                    more_pairs += expected != pairs
                    alike += expected == pairs
        self.assertTrue(more_pairs > 50 and alike > 50, (more_pairs, alike))

    def test_marks_exchanged(self):
        for watch, head, k in small_frames(187, 60):
            table = find_marked(watch, head, k)
            for j, part in enumerate(table):
                for i, (row, mark) in enumerate(part[:4]):
                    for other in [None] + pairs_of(watch[0]):
                        if other != mark:
                            changed = with_part(table, j, with_part(part, i, (row, other)))
                            self.check(shown_by_words(watch, head, k, changed), watch, head, k, changed)

    def test_none_in_the_wrong_list(self):
        start = (((UNUSED,), ()), None)
        one = (((1, 0, 0),), ())
        watch = ((('ab', 1, False),), 2, 2)
        self.check([(0, 0)], watch, ('a', '?'), 0, find_marked(watch, ('a', '?'), 0))
        two = (((2, 1, 1),), ())
        self.check([(0, 0)], watch, ('a', '?'), 0, [[start], [(one, (0, 0))], [(two, (0, 0))]])
        self.check(None, watch, ('a', '?'), 0, [[start], [(one, None)], [(two, (0, 0))]],
                   [[start], [(one, (0, 0)), (one, None)], [(two, (0, 0))]],
                   [[start], [(one, (0, 0))], [(two, None)]], [[start], [(one, (0, 0))], [(two, (0, 0)), (two, None)]],
                   [[(start[0], (0, 0))], [(one, (0, 0))], [(two, (0, 0))]],
                   [[start, (start[0], (0, 0))], [(one, (0, 0))], [(two, (0, 0))]])
        self.check([(0, 1)], watch, ('a', '?'), 1, [[start], [(one, None)], [(two, (0, 1))]])
        self.check(None, watch, ('a', '?'), 1, [[start], [(one, (0, 0))], [(two, (0, 1))]],
                   [[start], [(one, None), (one, (0, 0))], [(two, (0, 1))]], [[start], [(one, None)], [(two, None)]],
                   [[start], [(one, None)], [(two, (0, 0))]])
        # a pair that no step takes may stand there with all that follows from it
        self.check([(0, 0), (0, 1)], watch, ('a', '?'), 1, [[start], [(one, None)], [(two, (0, 1)), (two, (0, 0))]])
        self.check([(0, 0), (0, 1)], watch, ('a', '?'), 0,
                   [[start], [(one, (0, 0)), (one, (0, 1))], [(two, (0, 1)), (two, (0, 0))]])
        self.check(None, watch, ('a', '?'), 0, [[start], [(one, (0, 0)), (one, (0, 1))], [(two, (0, 0))]])

    def test_marks_of_other_kinds(self):
        watch, head = WATCH, ('a', 'b')
        for k in range(2):
            table = find_marked(watch, head, k)
            for j, part in enumerate(table):
                there_are = {repr(marked) for marked in all_marked(watch, head, k, j)}
                for i, (row, mark) in enumerate(part):
                    for other in ODD + [(0, True), (False, 0), (2, 0), (0, 3), (1, 2), (-1, 0), (0, -1), [0, 0], (0,), (0, 0, 0)]:
                        if repr((row, other)) not in there_are:
                            self.check(None, watch, head, k, with_part(table, j, with_part(part, i, (row, other))))
                            self.check(None, watch, head, k, with_part(table, j, part + [(row, other)]))

    def test_parts_changed(self):
        for watch, head, k in [(WATCH, ('a', 'b'), 0), (LONG_WATCH, ('b',), 0), (TURNED, ('a', '?'), 1)]:
            table = find_marked(watch, head, k)
            self.assertIsNotNone(pairs_shown(watch, head, k, table))
            for changed in parts_changed(table):
                self.check(None, watch, head, k, changed)

    def test_tables_of_other_frames_and_heads(self):
        found = small_frames(188, 60)
        for (watch, head, k), (other, other_head, other_k) in zip(found, found[1:]):
            table = find_marked(other, other_head, other_k)
            expected = None
            if len(watch[0]) == len(other[0]):
                expected = shown_by_words(watch, head, k, table)
            self.check(expected, watch, head, k, table)

    def test_other_values(self):
        for watch, head, k in [(WATCH, ('a',), 0), (WATCH, ('a', 'b'), 1), (WATCH, ('b',), 0)]:
            table = find_marked(watch, head, k)
            self.check(None, watch, head, k, *ODD)
            for value in ODD:
                self.check(None, watch, head, k, [value] + table[1:], with_part(table, 0, table[0] + [value]),
                           with_part(table, 1, table[1] + [value]), with_part(table, 1, [(value, (0, 0))]),
                           with_part(table, 1, [((value, ()), (0, 0))]), [value] * len(table))


if __name__ == '__main__':
    unittest.main()
