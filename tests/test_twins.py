"""Stage 19: longest doubts and twins."""

import copy
import random
import unittest

from reelsplice.doubts import find_marked
from reelsplice.twins import find_doubt, find_pair_table, find_twins, is_pair_table, longest_doubt
from tests.helper import (LONG_WATCH, MIXED, ODD, SHORT, SIXTEEN, TURNED, WATCH, all_rows, all_whole, ends_by_words,
                          lives, parts_changed, signs_along, small_heads, steps_by_words, totals, turning_heads,
                          with_part)

UNUSED = (0, -1, 0)


def small_frames(seed, many):
    """Watches and heads, each with each frame of the head."""
    return [(watch, head, k) for watch, head in small_heads(seed, many) for k in range(len(head))]


def groups(watch, cuts, k, name):
    """For each name of a whole cut that is not None the pairs at frame k of those with this name."""
    found = {}
    for cut in cuts:
        told = name(cut)
        if told is not None:
            found.setdefault(told, set()).add(cut[k])
    return found


def longest_by_trying(watch, head, k):
    """The longest doubt of frame k, or None."""
    cuts, n = all_whole(watch, head), len(head)
    longest = None
    for d in range(17 - n):
        def signs(cut):
            return signs_along(watch[0], cut[n:n + d]) if len(cut) >= n + d else None
        if any(len(pairs) > 1 for pairs in groups(watch, cuts, k, signs).values()):
            longest = d
    return longest


def has_twins(watch, head, k):
    def signs(cut):
        return signs_along(watch[0], cut[len(head):])
    return any(len(pairs) > 1 for pairs in groups(watch, all_whole(watch, head), k, signs).values())


def open_case(watch, head):
    return (watch[0], head + ('?',) * (16 - len(head)), ())


def together(one, other):
    return (min(one, other), max(one, other))


def pairs_begun(watch, head, k):
    """The pairs that stand in the first list of each pair table: by the least marked table."""
    last = [(row, mark) for row, mark in find_marked(watch, head, k)[-1] if lives(watch, row)]
    return {together(row, other) for row, mark in last for other, other_mark in last if mark != other_mark}


def pairs_behind(watch, head, frames, pair):
    """The pairs to which each two steps with one sign lead from a pair of rows for so many frames."""
    case = open_case(watch, head)
    if frames == 16:
        return set()
    found = [
        [(case[0][r][0][p], after) for r, p, after in steps_by_words(case, frames, row) if lives(watch, after)]
        for row in pair
    ]
    return {together(after, other) for sign, after in found[0] for other_sign, other in found[1] if sign == other_sign}


def is_pair_table_by_words(watch, head, k, table):
    case = open_case(watch, head)
    n = len(head)
    if not 1 <= len(table) <= 17 - n or not pairs_begun(watch, head, k) <= set(table[0]):
        return False
    for i, part in enumerate(table):
        rows = all_rows(case, n + i)
        following = table[i + 1] if i + 1 < len(table) else []
        if len(set(part)) != len(part):
            return False
        for one, other in part:
            if one not in rows or other not in rows or other < one:
                return False
            if not pairs_behind(watch, head, n + i, (one, other)) <= set(following):
                return False
    return True


def closed(watch, head, table):
    """A pair table with all that follows from its pairs."""
    found = [list(part) for part in table]
    i = 0
    while i < len(found):
        for pair in found[i]:
            for after in sorted(pairs_behind(watch, head, len(head) + i, pair)):
                if i + 1 == len(found):
                    found.append([])
                if after not in found[i + 1]:
                    found[i + 1].append(after)
        i += 1
    return found


def both_end(watch, head, frames, pair):
    case = open_case(watch, head)
    return watch[1] <= frames <= watch[2] and all(ends_by_words(case, row) for row in pair)


class Doubts(unittest.TestCase):

    def check(self, watch, head, k):
        """Checks all that is told of a frame, and returns the longest doubt and whether there are twins."""
        before = repr((watch, head))
        longest, twins = longest_by_trying(watch, head, k), has_twins(watch, head, k)
        cuts = all_whole(watch, head)
        for _ in range(2):
            self.assertEqual(longest_doubt(watch, head, k), longest, (watch, head, k))
        doubt = find_doubt(watch, head, k)
        self.assertEqual(doubt, find_doubt(watch, head, k))
        if longest is None:
            self.assertIsNone(doubt)
        else:
            self.check_doubt(watch, head, k, longest, doubt, cuts)
        found = find_twins(watch, head, k)
        self.assertEqual(found, find_twins(watch, head, k))
        self.assertEqual(found is not None, twins, (watch, head, k))
        if twins:
            self.check_twins(watch, head, k, found, cuts)
        self.assertEqual(repr((watch, head)), before)
        return longest, twins

    def check_doubt(self, watch, head, k, longest, doubt, cuts):
        self.assertIs(type(doubt), tuple)
        one, other = doubt
        n = len(head)
        self.assertIn(one, cuts)
        self.assertIn(other, cuts)
        self.assertLess(one, other)
        self.assertNotEqual(one[k], other[k])
        self.assertGreaterEqual(min(len(one), len(other)), n + longest)
        signs = [signs_along(watch[0], cut[n:n + longest]) for cut in doubt]
        self.assertEqual(signs[0], signs[1], (watch, head, k, doubt))

    def check_twins(self, watch, head, k, twins, cuts):
        self.assertIs(type(twins), tuple)
        one, other = twins
        self.assertIn(one, cuts)
        self.assertIn(other, cuts)
        self.assertLess(one, other)
        self.assertNotEqual(one[k], other[k])
        self.assertEqual(len(one), len(other))
        self.assertEqual(signs_along(watch[0], one[len(head):]), signs_along(watch[0], other[len(head):]))

    def test_against_all(self):
        doubts, with_twins, without = [], 0, 0
        for watch, head, k in small_frames(201, 400):
            longest, twins = self.check(watch, head, k)
            doubts.append(longest)
            with_twins += twins
            without += longest is not None and not twins
        for d in [None, 0, 1, 2, 3]:
            self.assertGreater(doubts.count(d), 15, d)
        self.assertTrue(with_twins > 60 and without > 5, (with_twins, without))

    def test_doubts_without_twins(self):
        doubts = []
        for watch, head in turning_heads(209, 1000):
            for k in range(len(head)):
                longest, twins = longest_by_trying(watch, head, k), has_twins(watch, head, k)
                if longest is not None and not twins:
                    doubts.append(longest)
                    self.check(watch, head, k)
                    table = find_pair_table(watch, head, k)
                    self.assertTrue(is_pair_table(watch, head, k, table))
                    self.assertEqual(len(table), longest + 1)
        self.assertTrue(len(doubts) > 60 and max(doubts) > 2, doubts)

    def test_signs_of_the_head_may_differ(self):
        # frame 0 is a or b, and c follows in any case
        watch = ((('ac', 0, False), ('bd', 2, False)), 0, 16)
        self.check(watch, ('ab', '?'), 0)
        watch = ((('abc', 1, False),), 0, 16)
        self.assertEqual(self.check(watch, ('ab',), 0), (1, True))
        self.assertEqual(find_twins(watch, ('ab',), 0), (((0, 0), (0, 2)), ((0, 1), (0, 2))))
        self.assertEqual(self.check(watch, ('ab', 'c'), 0), (0, True))
        self.assertEqual(find_doubt(watch, ('ab', 'c'), 0), (((0, 0), (0, 2)), ((0, 1), (0, 2))))

    def test_the_values_of_the_document(self):
        for watch in (WATCH, LONG_WATCH, SHORT, TURNED, MIXED):
            for head in [('a',), ('?',), ('a', '?'), ('abm',), ('abm', 'x'), ('?', 'b'), ('a', 'b', 'c'), ('b',), ('', '?')]:
                for k in range(len(head)):
                    self.check(watch, head, k)

    def test_least_and_most(self):
        stock = (('aba', 3, True),)
        for least in range(5):
            for most in range(least, 6):
                for head in [('?',), ('a',), ('ab', 'b'), ('?', '?', '?')]:
                    for k in range(len(head)):
                        self.check((stock, least, most), head, k)

    def test_no_doubt(self):
        for watch, head, k in [(WATCH, ('a', 'b', 'c'), 0), (WATCH, ('b',), 0), (SHORT, ('a', '?'), 1), (TURNED, ('b',), 0)]:
            self.assertEqual(longest_doubt(watch, head, k), None)
            self.assertEqual(find_doubt(watch, head, k), None)
            self.assertEqual(find_twins(watch, head, k), None)
            self.assertEqual(find_pair_table(watch, head, k), [[]])

    def test_heads_of_sixteen_frames(self):
        chance = random.Random(202)
        longest = []
        for _ in range(4):
            signs = signs_along(SIXTEEN[0], chance.choice(all_whole(SIXTEEN, ())))
            head = tuple(chance.choice(['?', sign, sign]) for sign in signs)
            for n in (16, 15, 9):
                for k in (0, n - 2, n - 1):
                    longest.append(self.check(SIXTEEN, head[:n], k))
                    table = find_pair_table(SIXTEEN, head[:n], k)
                    self.assertTrue(is_pair_table(SIXTEEN, head[:n], k, table))
                    self.assertLessEqual(len(table), 17 - n)
        self.assertIn((0, True), longest)
        self.assertTrue([d for d, _ in longest if d is not None and d > 3])

    def test_tapes_that_go_on_to_sixteen_frames(self):
        watch = ((('aaaaaaaa', 0, False), ('aaaaaaaa', 0, False)), 0, 16)
        self.assertEqual(longest_doubt(watch, ('a',), 0), 15)
        table = find_pair_table(watch, ('a',), 0)
        self.assertEqual(len(table), 16)
        self.assertTrue(is_pair_table(watch, ('a',), 0, table))
        self.assertFalse(is_pair_table(watch, ('a',), 0, table + [[]]))
        self.assertFalse(is_pair_table(watch, ('a',), 0, table[:-1]))
        self.assertIsNotNone(find_twins(watch, ('a',), 0))


class PairTables(unittest.TestCase):

    def check(self, expected, watch, head, k, *tables):
        for table in tables:
            before = repr(table)
            self.assertIs(is_pair_table(watch, head, k, table), expected, (watch, head, k, table))
            self.assertEqual(repr(table), before)

    def test_what_is_found(self):
        for watch, head, k in small_frames(203, 200):
            table, longest = find_pair_table(watch, head, k), longest_by_trying(watch, head, k)
            self.assertEqual(table, find_pair_table(watch, head, k))
            self.check(True, watch, head, k, table, [part[::-1] for part in table], [sorted(part) for part in table])
            self.assertTrue(is_pair_table_by_words(watch, head, k, table))
            if longest is None:
                self.assertEqual(table, [[]])
            else:
                # fewer lists than this show no such doubt
                self.assertEqual(len(table), longest + 1)
            ending = [pair for i, part in enumerate(table) for pair in part if both_end(watch, head, len(head) + i, pair)]
            self.assertEqual(bool(ending), has_twins(watch, head, k), (watch, head, k))

    def test_pairs_left_out_doubled_or_turned_about(self):
        apart = 0
        for watch, head, k in small_frames(204, 80):
            table = find_pair_table(watch, head, k)
            for i, part in enumerate(table):
                self.check(False, watch, head, k, with_part(table, i, tuple(part)), with_part(table, i, None),
                           with_part(table, i, dict.fromkeys(part)))
                for at, (one, other) in enumerate(part):
                    self.check(False, watch, head, k, with_part(table, i, part + [(one, other)]),
                               with_part(table, i, part[:at] + part[at + 1:]),
                               with_part(table, i, with_part(part, at, [one, other])))
                    if one != other:
                        apart += 1
                        self.check(False, watch, head, k, with_part(table, i, with_part(part, at, (other, one))),
                                   with_part(table, i, part + [(other, one)]))
            self.check(False, watch, head, k, tuple(table), [], [[]] if table != [[]] else None, dict(enumerate(table)))
        self.assertGreater(apart, 300)

    def test_lists_left_out_and_put_in(self):
        more = 0
        for watch, head, k in small_frames(205, 120):
            table = find_pair_table(watch, head, k)
            if len(head) + len(table) <= 16:
                more += 1
                self.check(True, watch, head, k, table + [[]])
                longer = table + [[] for _ in range(17 - len(head) - len(table))]
                self.check(True, watch, head, k, longer)
                self.check(False, watch, head, k, longer + [[]])
            if table != [[]]:
                self.check(False, watch, head, k, table[:-1], table[1:], [[]] + table)
            if len(table) > 1:
                self.check(False, watch, head, k, table[::-1], table[:1] + table)
        self.assertGreater(more, 100)

    def test_pairs_put_in(self):
        taken = refused = 0
        for watch, head, k in small_frames(206, 45):
            table = find_pair_table(watch, head, k)
            for i in range(len(table)):
                rows = all_rows(open_case(watch, head), len(head) + i)
                others = [(a, b) for a in rows for b in rows if a <= b and (a, b) not in table[i]]
                for pair in others[:15]:
                    one = with_part(table, i, table[i] + [pair])
                    expected = is_pair_table_by_words(watch, head, k, one)
                    self.check(expected, watch, head, k, one)
                    taken += expected
                    refused += not expected
                    # with all that follows from it, it may stand there
                    self.check(True, watch, head, k, closed(watch, head, one))
        self.assertTrue(taken > 50 and refused > 50, (taken, refused))

    def test_all_pairs_at_all(self):
        for watch, head, k in small_frames(207, 25):
            full = []
            for i in range(17 - len(head)):
                rows = all_rows(open_case(watch, head), len(head) + i)
                full.append([(a, b) for a in rows for b in rows if a <= b])
            self.check(True, watch, head, k, full)
            self.check(False, watch, head, k, full + [[]])

    def test_a_row_beside_itself(self):
        # behind 'ab' and a free frame place 2 is taken last in any case, so one row stands beside itself
        watch, head = ((('abc', 1, False),), 0, 16), ('ab', 'c')
        row = (((2, 2, 1),), ())
        self.assertEqual(find_pair_table(watch, head, 0), [[(row, row)]])
        self.check(True, watch, head, 0, [[(row, row)]])
        self.check(False, watch, head, 0, [[(row, row), (row, row)]], [[(row,)]], [[(row, row, row)]], [[row]])
        watch, head = ((('abca', 1, False),), 0, 16), ('ab', 'c')
        self.assertEqual(find_pair_table(watch, head, 0), [[(row, row)], [((((3, 3, 1),), ()),) * 2]])

    def test_parts_changed(self):
        for watch, head, k in [(WATCH, ('a',), 0), (TURNED, ('a',), 0), (SHORT, ('a',), 0)]:
            table = find_pair_table(watch, head, k)
            self.check(True, watch, head, k, table)
            taken = 0
            for changed in parts_changed(table):
                expected = changed == table + [[]]
                taken += expected
                self.check(expected, watch, head, k, changed)
            self.assertEqual(taken, 0)

    def test_truths(self):
        row = (((1, 0, 0),), ())
        watch = ((('ab', 2, False),), 0, 16)
        other = (((1, 1, 0),), ())
        self.check(True, watch, ('?',), 0, [[(row, other)]], [[(row, other)], []], [[(row, other), (row, row)], [
            ((((2, 1, 1),), ()),) * 2]])
        for bad in [(((True, 0, 0),), ()), (((1, False, 0),), ()), (((1, 0, False),), ())]:
            self.check(False, watch, ('?',), 0, [[(bad, other)]], [[(row, other), (bad, bad)], [((((2, 1, 1),), ()),) * 2]])
        for bad in [(((1, True, 0),), ()), (((1, 1, 0),), ((0, 0),)), (((1, 1, 1),), ()), (((0, -1, 0),), ()),
                    (((2, 1, 1),), ()), (((1, 2, 0),), ()), ((), ()), (((1, 1, 0), (0, -1, 0)), ())]:
            self.check(False, watch, ('?',), 0, [[(row, bad)]], [[(row, other), (row, bad)]], [[(row, other)], [(bad, bad)]]
                       if bad != (((2, 1, 1),), ()) else None)

    def test_other_values(self):
        for watch, head, k in [(WATCH, ('a',), 0), (WATCH, ('a', 'b', 'c'), 1), (SHORT, ('a', '?'), 0)]:
            table = find_pair_table(watch, head, k)
            for value in ODD:
                self.check(type(value) is list and value in ([[]], [[], []]) and table == [[]], watch, head, k, value)
                self.check(False, watch, head, k, with_part(table, 0, table[0] + [value]),
                           with_part(table, 0, table[0] + [(value, value)]))
                if value != []:
                    self.check(False, watch, head, k, table + [value], [value])
            row = (((1, 0, 0), UNUSED), ())
            for value in ODD:
                self.check(False, WATCH, ('a',), 0, [[(row, value)]], [[(value, row)]])

    def test_tables_of_other_heads(self):
        found = small_frames(208, 60)
        for (watch, head, k), (other, other_head, other_k) in zip(found, found[1:]):
            table = find_pair_table(other, other_head, other_k)
            expected = table == [[]] and longest_by_trying(watch, head, k) is None
            if table != [[]] and len(watch[0]) == len(other[0]):
                expected = is_pair_table_by_words(watch, head, k, table)
            self.check(expected, watch, head, k, table)

    def test_results_are_new(self):
        table = find_pair_table(WATCH, ('a',), 0)
        kept = copy.deepcopy(table)
        table[0].clear()
        table.append('more')
        self.assertEqual(find_pair_table(WATCH, ('a',), 0), kept)
        nothing = find_pair_table(WATCH, ('b',), 0)
        nothing[0].append(1)
        self.assertEqual(find_pair_table(WATCH, ('b',), 0), [[]])

    def test_longer_than_any_whole_cut(self):
        self.assertEqual(totals((('ab', 0, False),), (UNUSED,)), [2])
        watch = ((('ab', 0, False),), 0, 16)
        self.check(True, watch, ('a',), 0, [[]], [[], [], []], [[] for _ in range(16)])
        self.check(False, watch, ('a',), 0, [[] for _ in range(17)], [])


if __name__ == '__main__':
    unittest.main()
