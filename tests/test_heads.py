"""Stage 16: heads."""

import copy
import random
import unittest

from reelsplice.heads import find_dead_table, find_whole, is_dead_table, is_watch, is_whole, lengths, reach
from tests.helper import (LONG_WATCH, MIXED, ODD, SHORT, SIXTEEN, TURNED, WATCH, all_cuts, all_rows, all_whole,
                          integers_moved, lists_disturbed, lives, parts_changed, parts_exchanged, random_reel,
                          small_heads, steps_by_words, totals, watch_size, with_part)

WATCHES = [WATCH, LONG_WATCH, SHORT, TURNED, MIXED, SIXTEEN]
UNUSED = (0, -1, 0)


def case_of(watch, head):
    return (watch[0], head, ())


def is_dead_by_words(watch, head, table):
    """Whether lists are a dead table, by the words of the document."""
    case = case_of(watch, head)
    if len(table) != len(head) + 1 or ((UNUSED,) * len(watch[0]), ()) not in table[0]:
        return False
    for j, rows in enumerate(table):
        there_are = all_rows(case, j)
        if len(set(rows)) != len(rows) or any(row not in there_are for row in rows):
            return False
        if j < len(head) and any(after not in table[j + 1] for row in rows for _, _, after in steps_by_words(case, j, row)):
            return False
    return not any(lives(watch, row) for row in table[-1])


def closed(watch, head, table):
    """A table with all rows that follow from its rows, and no row twice."""
    case = case_of(watch, head)
    found = [list(dict.fromkeys(rows)) for rows in table]
    for j in range(len(head)):
        for row in found[j]:
            for _, _, after in steps_by_words(case, j, row):
                if after not in found[j + 1]:
                    found[j + 1].append(after)
    return found


class Watches(unittest.TestCase):

    def check(self, expected, *values):
        for value in values:
            before = repr(value)
            self.assertIs(is_watch(value), expected, value)
            self.assertEqual(repr(value), before)

    def test_watches(self):
        self.check(True, *WATCHES)
        self.check(True, ((('a', 0, False),), 0, 0), ((('a', 1, True),), 16, 16), ((('a', 0, False),), 3, 3))

    def test_the_product(self):
        self.check(True, ((('abcdefghi', 0, False), ('abcdefghi', 0, False)), 0, 16))
        self.check(True, ((('abcd', 0, False), ('abcd', 0, False), ('abc', 0, False)), 0, 16))
        self.check(True, ((('abc', 0, False), ('abcd', 0, False), ('ab', 1, False)), 0, 16))
        self.check(True, ((('abc', 3, True), ('abc', 0, False)), 0, 16))
        self.check(False, ((('abc', 3, True), ('abcd', 0, False)), 0, 16))
        self.check(False, ((('abcdefghij', 0, False), ('abcdefghi', 0, False)), 0, 16))
        self.check(False, ((('abcdefghij', 9, False),), 0, 16), ((('abcde', 4, True), ('a', 0, False)), 0, 16))
        self.check(True, ((('abcdefghi', 9, False),), 0, 16))
        self.check(True, ((('abcdefghij', 8, False),), 0, 16), ((('abcdefghij', 3, True),), 0, 16))
        self.check(False, ((('abcdefghij', 4, True),), 0, 16), ((('abcdefghi', 5, True),), 0, 16))
        seen = []
        chance = random.Random(161)
        for _ in range(3000):
            stock = tuple(random_reel(chance, 6) for _ in range(chance.randint(1, 4)))
            size = watch_size(stock)
            seen.append(size)
            self.check(size <= 100, (stock, 0, 16))
        self.assertTrue({96, 99, 100, 102, 105} <= set(seen))

    def test_least_and_most(self):
        stock = WATCH[0]
        for least in range(-2, 19):
            for most in range(-2, 19):
                self.check(0 <= least <= most <= 16, (stock, least, most))
        self.check(False, (stock, 10 ** 29, 10 ** 29), (stock, -10 ** 29, 3), (stock, 3, 10 ** 29))
        self.check(False, (stock, False, 3), (stock, 0, True), (stock, True, True), (stock, False, False))
        self.check(False, (stock, None, 3), (stock, '0', 3), (stock, 0, [16]), (stock, (), {}))

    def test_stocks(self):
        for stock in [(), (('ab', 3, False),), (('ab', 0, 0),), (('', 0, False),), [('ab', 0, False)], ('ab', 0, False),
                      (['ab', 0, False],), (('ab', True, False),), (('aB', 0, False),), (('ab', 0),), (('a', 0, False),) * 5,
                      (('abcdefghijk', 0, False),), None, 7, 'ab', {'ab': 0}]:
            self.check(False, (stock, 0, 16))
        self.check(True, ((('a', 0, False),) * 4, 0, 16))
        self.check(False, ((('a', 1, True),) * 4, 0, 16))

    def test_other_values(self):
        self.check(False, *ODD)
        for watch in WATCHES:
            self.check(False, list(watch), watch[:2], watch + (0,), (watch,), [watch], watch[0])
            for changed in parts_changed(watch):
                # another number of frames or signs left out may make another watch
                if not is_small(changed):
                    self.check(False, changed)
            for value in ODD:
                self.check(False, (value, 0, 16), (watch[0], value, 16) if value not in (0, 1) or type(value) is bool else None)


def is_small(value):
    """Whether a value is a watch, said in another way: for values that differ from a watch in one part."""
    if type(value) is not tuple or len(value) != 3 or type(value[0]) is not tuple or not 1 <= len(value[0]) <= 4:
        return False
    if type(value[1]) is not int or type(value[2]) is not int or not 0 <= value[1] <= value[2] <= 16:
        return False
    for reel in value[0]:
        if type(reel) is not tuple or [type(part) for part in reel] != [str, int, bool] or not 0 <= reel[1] <= len(reel[0]):
            return False
    return watch_size(value[0]) <= 100


class Reach(unittest.TestCase):

    def check_all(self, stock):
        case = (stock, ('?',) * 16, ())
        for k in range(sum(len(reel[0]) for reel in stock) + 1):
            for row in all_rows(case, k):
                told = reach(stock, row)
                numbers = totals(stock, row[0])
                self.assertEqual(numbers, list(range(told[0], told[1] + 1)), (stock, row))
                self.assertEqual(repr(told), repr((numbers[0], numbers[-1])))

    def test_each_run_of_one_reel(self):
        for size in range(1, 7):
            for loss in range(size + 1):
                for turns in (False, True):
                    self.check_all((('abcdef'[:size], loss, turns),))

    def test_some_reels(self):
        for watch, _ in small_heads(162, 60):
            self.check_all(watch[0])
        self.check_all((('abc', 1, True), ('ab', 2, False), ('a', 0, False)))

    def test_by_hand(self):
        reel = ('abcde', 2, True)
        self.assertEqual(reach((reel,), ((UNUSED,), ())), (3, 5))
        self.assertEqual(reach((reel,), (((1, 0, 0),), ())), (3, 5))
        self.assertEqual(reach((reel,), (((1, 2, 0),), ())), (3, 3))
        self.assertEqual(reach((reel,), (((1, 1, 0),), ())), (3, 4))
        self.assertEqual(reach((reel,), (((2, 3, -1),), ())), (3, 5))
        self.assertEqual(reach((reel,), (((2, 2, 1),), ())), (3, 4))
        self.assertEqual(reach((reel,), (((3, 4, 1),), ())), (3, 3))
        self.assertEqual(reach((('abcde', 5, False), ('ab', 0, False)), ((UNUSED, UNUSED), ())), (2, 7))


class Wholes(unittest.TestCase):

    def test_all_whole_cuts_are_cuts_of_longer_heads(self):
        # the helper's own way to find whole cuts, against the one of cases
        for watch, head in small_heads(163, 60):
            if sum(len(reel[0]) for reel in watch[0]) <= 5:
                expected = []
                for many in range(max(watch[1], len(head)), min(watch[2], 5) + 1):
                    expected += all_cuts((watch[0], head + ('?',) * (many - len(head)), ()))
                self.assertEqual(all_whole(watch, head), sorted(expected))

    def test_against_all(self):
        dead = 0
        for watch, head in small_heads(164, 500):
            cuts = all_whole(watch, head)
            dead += not cuts
            self.assertEqual(lengths(watch, head), sorted({len(cut) for cut in cuts}), (watch, head))
            whole, table = find_whole(watch, head), find_dead_table(watch, head)
            self.assertEqual(whole is None, not cuts, (watch, head))
            self.assertEqual(table is None, bool(cuts), (watch, head))
            if whole is not None:
                self.assertIn(whole, cuts)
                self.assertIs(is_whole(watch, head, whole), True)
                self.assertFalse(is_dead_table(watch, head, []))
            else:
                self.assertIs(is_dead_table(watch, head, table), True, (watch, head))
                self.assertTrue(is_dead_by_words(watch, head, table))
            self.assertEqual(whole, find_whole(watch, head))
            self.assertEqual(table, find_dead_table(watch, head))
        self.assertTrue(30 < dead < 250, dead)

    def test_is_whole_for_all_tapes(self):
        for watch, head in small_heads(165, 120):
            cuts = all_whole(watch, head)
            for tape in all_whole((watch[0], 0, 16), ()):
                self.assertIs(is_whole(watch, head, tape), tape in cuts, (watch, head, tape))
                for other in [tape + tape[-1:], tape[:-1], tape[1:]] + parts_exchanged(tape[:4]):
                    self.assertIs(is_whole(watch, head, other), other in cuts)

    def test_is_whole_for_changed_parts(self):
        for watch, head in [(WATCH, ('a',)), (TURNED, ()), (SHORT, ('?',)), (MIXED, ('abm', '?', '?'))] + small_heads(166, 30):
            cuts = all_whole(watch, head)
            there_are = {repr(cut) for cut in cuts}
            for cut in cuts[:3]:
                for other in parts_changed(cut):
                    self.assertIs(is_whole(watch, head, other), repr(other) in there_are, (watch, head, other))
                for other in integers_moved(cut):
                    self.assertIs(is_whole(watch, head, other), other in cuts)
            for value in ODD:
                self.assertIs(is_whole(watch, head, value), repr(value) in there_are)
                self.assertIs(is_whole(watch, head, (value,)), repr((value,)) in there_are)

    def test_least_and_most(self):
        stock = (('ab', 2, False), ('c', 1, True))
        for least in range(17):
            for most in range(least, 17):
                watch = (stock, least, most)
                for head in [(), ('?',), ('?', 'c'), ('?', '?', '?'), ('a', 'b', 'c', '?'), ('x',)]:
                    cuts = all_whole(watch, head)
                    self.assertEqual(lengths(watch, head), sorted({len(cut) for cut in cuts}))
                    self.assertEqual(find_whole(watch, head) in cuts, bool(cuts))
                    self.assertEqual(find_dead_table(watch, head) is None, bool(cuts))
                    for cut in all_whole((stock, 0, 16), ()):
                        self.assertIs(is_whole(watch, head, cut), cut in cuts)

    def test_most_below_what_the_head_has(self):
        for head in [('a',), ('a', '?'), ('?',) * 5]:
            watch = (WATCH[0], 0, len(head) - 1)
            self.assertEqual((lengths(watch, head), find_whole(watch, head)), ([], None))
            self.assertTrue(is_dead_table(watch, head, find_dead_table(watch, head)))
            self.assertFalse(is_whole(watch, head, ((0, 0), (0, 1), (1, 0), (1, 1), (0, 2))))

    def test_heads_of_no_frame(self):
        self.assertEqual(lengths(((('ab', 2, False),), 0, 16), ()), [0, 1, 2])
        self.assertEqual(find_whole(((('ab', 2, False),), 0, 0), ()), ())
        self.assertIs(is_whole(((('ab', 2, False),), 0, 0), (), ()), True)
        self.assertIs(is_whole(((('ab', 2, False),), 1, 16), (), ()), False)
        self.assertIs(is_whole(((('ab', 1, False),), 0, 16), (), ()), False)
        watch = ((('ab', 0, False),), 3, 16)
        self.assertEqual(find_dead_table(watch, ()), [[((UNUSED,), ())]])
        self.assertIs(is_dead_table(watch, (), [[((UNUSED,), ())]]), True)
        self.assertIs(is_dead_table(watch, (), [[]]), False)
        self.assertIs(is_dead_table(watch, (), []), False)
        self.assertIs(is_dead_table(((('ab', 0, False),), 2, 16), (), [[((UNUSED,), ())]]), False)

    def test_heads_of_sixteen_frames(self):
        alive = dead = 0
        chance = random.Random(167)
        for _ in range(12):
            cut = chance.choice(all_whole(SIXTEEN, ()))
            signs = [SIXTEEN[0][r][0][p] for r, p in cut]
            head = tuple(chance.choice(['?', sign, 'ab']) for sign in signs)
            for tried in [head, head[:15] + (chance.choice(['', 'x', 'a', 'b']),), head[:15], head[:9]]:
                cuts = all_whole(SIXTEEN, tried)
                self.assertEqual(lengths(SIXTEEN, tried), [16] if cuts else [])
                if cuts:
                    alive += 1
                    self.assertTrue(is_whole(SIXTEEN, tried, find_whole(SIXTEEN, tried)))
                    self.assertIsNone(find_dead_table(SIXTEEN, tried))
                else:
                    dead += 1
                    self.assertIsNone(find_whole(SIXTEEN, tried))
                    self.assertTrue(is_dead_table(SIXTEEN, tried, find_dead_table(SIXTEEN, tried)))
        self.assertTrue(alive and dead)
        self.assertEqual(lengths((SIXTEEN[0], 0, 15), ()), [])

    def test_results_are_new(self):
        watch, head = WATCH, ('b',)
        before = repr((watch, head))
        table = find_dead_table(watch, head)
        kept = copy.deepcopy(table)
        table[0].append('more')
        table.pop()
        self.assertEqual(find_dead_table(watch, head), kept)
        found = lengths(SHORT, ())
        found.append(9)
        self.assertEqual(lengths(SHORT, ()), [1, 2])
        self.assertEqual(repr((watch, head)), before)


class DeadTables(unittest.TestCase):

    def dead_heads(self, seed, many):
        return [(watch, head) for watch, head in small_heads(seed, many) if not all_whole(watch, head)]

    def check(self, expected, watch, head, *tables):
        for table in tables:
            before = repr(table)
            self.assertIs(is_dead_table(watch, head, table), expected, (watch, head, table))
            self.assertEqual(repr(table), before)

    def test_rows_left_out_doubled_or_in_another_order(self):
        found = self.dead_heads(168, 400)
        self.assertGreater(len(found), 25)
        for watch, head in found:
            table = find_dead_table(watch, head)
            self.check(True, watch, head, [rows[::-1] for rows in table], [sorted(rows) for rows in table])
            self.check(False, watch, head, *lists_disturbed(table))

    def test_rows_put_in(self):
        taken = refused = 0
        for watch, head in self.dead_heads(169, 300):
            table = find_dead_table(watch, head)
            for j in range(len(head) + 1):
                for row in all_rows(case_of(watch, head), j):
                    if row not in table[j]:
                        one = with_part(table, j, table[j] + [row])
                        self.check(is_dead_by_words(watch, head, one), watch, head, one)
                        # with all that follows from it, the row decides alone
                        more = closed(watch, head, one)
                        expected = is_dead_by_words(watch, head, more)
                        self.check(expected, watch, head, more)
                        taken += expected
                        refused += not expected
        self.assertTrue(taken > 50 and refused > 50, (taken, refused))

    def test_rows_in_the_last_list(self):
        stock = (('ab', 1, False), ('cd', 0, False))
        watch, head = (stock, 4, 16), ('b',)
        table = find_dead_table(watch, head)
        self.assertEqual(table, [[((UNUSED, UNUSED), ())], [(((1, 1, 0), UNUSED), ())]])
        self.check(True, watch, head, table)
        # behind place 0 of the first reel four frames may still come, behind place 0 of the second one too
        for row in [(((1, 0, 0), UNUSED), ()), ((UNUSED, (1, 0, 0)), ())]:
            self.check(False, watch, head, [table[0], table[1] + [row]])
            self.check(True, (stock, 0, 2), head, [table[0], table[1] + [row]])
        self.check(False, (stock, 3, 16), head, table)
        self.check(False, watch, head, [table[0], []], [[], table[1]], [table[1], table[1]], table + [[]], table[:1])

    def test_parts_changed(self):
        for watch, head in [(WATCH, ('b',)), (TURNED, ('c', 'b', 'a')), (SHORT, ('a', 'a', '?'))]:
            table = find_dead_table(watch, head)
            self.check(True, watch, head, table)
            for changed in parts_changed(table):
                self.check(False, watch, head, changed)

    def test_truths(self):
        table = find_dead_table(WATCH, ('b',))
        self.check(False, WATCH, ('b',), [[(((0, -1, 0), (False, -1, 0)), ())], []])
        self.check(False, WATCH, ('b',), [[(((0, -1, 0), (0, -1, False)), ())], []])
        self.check(True, WATCH, ('b',), table)
        watch = ((('ab', 0, False),), 0, 16)
        rows = [[((UNUSED,), ())], [(((1, 0, 0),), ())], []]
        self.check(True, watch, ('?', 'a'), rows)
        self.check(False, watch, ('?', 'a'), [rows[0], [(((True, 0, 0),), ())], []], [rows[0], [(((1, False, 0),), ())], []])

    def test_rows_that_there_are_not(self):
        watch, head = ((('abc', 1, True),), 0, 16), ('?', 'x')
        table = find_dead_table(watch, head)
        there_are = [set(all_rows(case_of(watch, head), j)) for j in range(3)]
        self.check(True, watch, head, table)
        for j in range(3):
            for used in range(-1, 5):
                for last in range(-2, 4):
                    for way in range(-2, 3):
                        row = (((used, last, way),), ())
                        if row not in there_are[j]:
                            self.check(False, watch, head, with_part(table, j, table[j] + [row]))
        for kept in [((0, 0),), ((1, 0),), None, [], ((),)]:
            self.check(False, watch, head, [table[0], [(table[1][0][0], kept)] + table[1][1:], []])
            self.check(False, watch, head, [table[0], table[1] + [(table[1][0][0], kept)], []])

    def test_tables_of_other_heads(self):
        found = self.dead_heads(170, 250)
        for (watch, head), (other, other_head) in zip(found, found[1:]):
            table = find_dead_table(other, other_head)
            expected = len(watch[0]) == len(other[0]) and is_dead_by_words(watch, head, table)
            self.check(expected, watch, head, table)

    def test_other_values(self):
        self.check(False, WATCH, ('b',), *ODD)
        self.check(False, WATCH, ('a',), *ODD)
        table = find_dead_table(WATCH, ('b',))
        for value in ODD:
            self.check(False, WATCH, ('b',), [table[0], [value]], [[value], []], [table[0] + [value], []], [value, []])
            if value != []:
                self.check(False, WATCH, ('b',), [table[0], value])
            if value != ():
                self.check(False, WATCH, ('b',), [[(table[0][0][0], value)], []])
            self.check(False, WATCH, ('b',), [[(value, ())], []], [[((UNUSED, value), ())], []])

    def test_no_dead_table_of_a_head_that_is_not_dead(self):
        for watch, head in small_heads(171, 200):
            if all_whole(watch, head):
                case = case_of(watch, head)
                self.check(False, watch, head, [all_rows(case, j) for j in range(len(head) + 1)],
                           closed(watch, head, [[((UNUSED,) * len(watch[0]), ())]] + [[] for _ in head]))


if __name__ == '__main__':
    unittest.main()
