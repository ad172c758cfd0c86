"""Stage 4: tables."""

import copy
import unittest
from itertools import product

from reelsplice.cuts import find_cut
from reelsplice.tables import ends, find_table, first_row, is_table, steps
from tests.helper import (BACK, CASE, FULL, LONG, LOSSY, ODD, OPEN_TAPE, TURNING, all_cuts, all_rows, all_runs,
                          ends_by_words, large_cases, parts_changed, random_cases, steps_by_words)

START = (((0, -1, 0),), ())
ONE = (((1, 1, 0),), ())
TABLE = [[START], [ONE], []]


class Rows(unittest.TestCase):

    def test_first_row(self):
        self.assertEqual(first_row(CASE), (((0, -1, 0), (0, -1, 0)), ()))
        for case in random_cases(21, 30) + large_cases():
            self.assertEqual(repr(first_row(case)), repr((((0, -1, 0),) * len(case[0]), ())))

    def test_steps_on_all_rows(self):
        for case in random_cases(22, 60, frames=4, places=5):
            for k in range(len(case[1])):
                for row in all_rows(case, k):
                    self.assertEqual(steps(case, k, row), steps_by_words(case, k, row), (case, k, row))

    def test_steps_of_longer_reels(self):
        for reel in [('abcabc', 2, False), ('abcabc', 2, True), ('aabbc', 5, True), ('abcdef', 0, True), ('ab', 0, True)]:
            case = ((reel,), ('?', 'ab', '?', 'c', '?', 'bc', '?'), ())
            for k in range(7):
                for row in all_rows(case, k):
                    self.assertEqual(steps(case, k, row), steps_by_words(case, k, row), (case, k, row))

    def test_steps_with_sayings(self):
        told = (('same', 0, 3), ('apart', 1, 3), ('off', 2, 0), ('apart', 0, 2))
        case = ((('aab', 1, True), ('ab', 2, False)), ('?', 'a', '?', 'ab'), told)
        for k in range(4):
            rows = all_rows(case, k)
            self.assertTrue(rows)
            for row in rows:
                self.assertEqual(steps(case, k, row), steps_by_words(case, k, row), (case, k, row))

    def test_what_is_kept(self):
        case = ((('ab', 2, False), ('ab', 2, False)), ('?',) * 4, (('same', 0, 2), ('apart', 1, 3)))
        row = first_row(case)
        kept = []
        for k, pair in enumerate(((0, 0), (1, 0), (0, 1), (0, 1))):
            for r, p, after in steps(case, k, row):
                if (r, p) == pair:
                    row = after
            kept.append(row[1])
        self.assertEqual(kept, [((0, 0),), ((0, 0), (1, 1)), ((1, 1),), ((1, 1),)])
        row = (((1, 0, 0), (1, 0, 0)), ((0, 0), (1, 1)))
        self.assertEqual(steps(case, 2, row), [(0, 1, (((2, 1, 1), (1, 0, 0)), ((1, 1),)))])
        row = (((2, 1, 1), (1, 0, 0)), ((1, 1),))
        self.assertEqual(steps(case, 3, row), [])
        row = (((2, 1, 1), (1, 0, 0)), ((1, 0),))
        self.assertEqual(steps(case, 3, row), [(1, 1, (((2, 1, 1), (2, 1, 1)), ()))])

    def test_runs_of_a_turning_reel(self):
        case = ((('abcd', 1, True),), ('?',) * 4, ())
        self.assertEqual([p for _, p, _ in steps(case, 0, first_row(case))], [0, 1, 2, 3])
        self.assertEqual([run for _, _, ((run,), _) in steps(case, 1, (((1, 1, 0),), ()))], [(2, 2, 1)])
        self.assertEqual([run for _, _, ((run,), _) in steps(case, 1, (((1, 2, 0),), ()))], [(2, 1, -1)])
        self.assertEqual(steps(case, 2, (((2, 3, 1),), ())), [])
        case = ((('abcde', 1, True),), ('?',) * 4, ())
        self.assertEqual([p for _, p, _ in steps(case, 0, first_row(case))], [0, 1, 3, 4])
        case = ((('abcde', 1, False),), ('?',) * 4, ())
        self.assertEqual([p for _, p, _ in steps(case, 0, first_row(case))], [0, 1])

    def test_no_frame_follows(self):
        for case in random_cases(23, 40, frames=3, places=4):
            for row in all_rows(case, len(case[1])):
                self.assertEqual(steps(case, len(case[1]), row), [])

    def test_ends(self):
        for case in random_cases(24, 60, frames=4, places=5):
            for row in all_rows(case, len(case[1])):
                self.assertIs(ends(case, row), ends_by_words(case, row), (case, row))
        case = ((('abc', 1, True), ('ab', 0, False)), ('?',) * 4, ())
        self.assertIs(ends(case, (((2, 1, 1), (2, 1, 1)), ())), True)
        self.assertIs(ends(case, (((3, 0, -1), (1, 0, 0)), ())), False)

    def test_results_are_new(self):
        first = steps(CASE, 0, first_row(CASE))
        first.append('more')
        self.assertEqual(steps(CASE, 0, first_row(CASE)), steps_by_words(CASE, 0, first_row(CASE)))


class FindTable(unittest.TestCase):

    def test_exactly_one_of_two(self):
        tables = 0
        for case in random_cases(25, 400):
            table, cut = find_table(case), find_cut(case)
            self.assertNotEqual(table is None, cut is None, case)
            self.assertEqual(cut is None, not all_cuts(case), case)
            if table is not None:
                tables += 1
                self.assertTrue(is_table(case, table), case)
                self.assertTrue(is_table_by_words(case, table), case)
            self.assertEqual(table, find_table(case))
        self.assertTrue(100 < tables < 300, tables)

    def test_large(self):
        sayings = (('apart', 0, 14), ('same', 1, 12), ('apart', 2, 15), ('of', 4, 0))
        for stock in (FULL, LOSSY, TURNING, LONG):
            for tape in [OPEN_TAPE[:15] + ('z',), OPEN_TAPE, OPEN_TAPE[:9], ('',) * 16]:
                for told in ((), sayings if len(tape) == 16 else sayings[3:]):
                    case = (stock, tape, told)
                    table, cut = find_table(case), find_cut(case)
                    self.assertNotEqual(table is None, cut is None, case)
                    if table is not None:
                        self.assertTrue(is_table(case, table))
                        self.assertFalse(is_table(case, table[:-1]))

    def test_no_frames(self):
        self.assertEqual(find_table(((('ab', 1, False),), (), ())), [[START]])
        self.assertIsNone(find_table(((('ab', 2, False),), (), ())))
        self.assertTrue(is_table(((('ab', 1, False),), (), ()), [[START]]))
        self.assertFalse(is_table(((('ab', 2, False),), (), ()), [[START]]))
        self.assertFalse(is_table(((('ab', 1, False),), (), ()), [[]]))
        self.assertFalse(is_table(((('ab', 1, False),), (), ()), []))

    def test_results_are_new(self):
        table = find_table(BACK)
        table[1].append('more')
        table.append([])
        self.assertEqual(find_table(BACK), TABLE)


def is_table_by_words(case, table):
    """Whether lists of rows are a table, by the words of the document."""
    frames = len(case[1])
    if len(table) != frames + 1 or first_row(case) not in table[0]:
        return False
    for k, rows in enumerate(table):
        possible = all_rows(case, k)
        if any(row not in possible for row in rows) or len(set(rows)) != len(rows):
            return False
        if k < frames and any(after not in table[k + 1] for row in rows for _, _, after in steps_by_words(case, k, row)):
            return False
    return not any(ends_by_words(case, row) for row in table[frames])


class IsTable(unittest.TestCase):

    def check(self, expected, case, *tables):
        for table in tables:
            before = copy.deepcopy(table)
            self.assertIs(is_table(case, table), expected, (case, table))
            self.assertEqual(repr(table), repr(before))

    def test_more_rows(self):
        full = [all_rows(BACK, k) for k in range(3)]
        self.check(True, BACK, [full[0], full[1], []], TABLE)
        # the rows at 2 of this case have used both places, so they end
        self.check(False, BACK, full)
        case = ((('abc', 0, True),), ('?', '?'), ())
        self.check(True, case, [all_rows(case, k) for k in range(3)])

    def test_more_rows_that_lead_on(self):
        case = ((('bd', 1, False),), ('d', 'bd'), ())
        zero = (((1, 0, 0),), ())
        self.check(True, case, TABLE)
        # from the place 0 the step to 1 would lead to a row that ends
        self.check(False, case, [[START], [ONE, zero], []], [[START], [ONE, zero], [(((2, 1, 1),), ())]])
        self.check(True, BACK, [[START], [ONE, zero], []], [[START], [zero, ONE], []])

    def test_rows_of_another_form(self):
        self.check(False, BACK, [[START], [ONE, (((1, 2, 0),), ())], []], [[START], [ONE, START], []])
        self.check(False, BACK, [[START, ONE], [ONE], []], [[START], [ONE, (((1, 0, 0),), ((0, 0),))], []])
        self.check(False, BACK, [[START], [ONE, (((1, 1, 1),), ())], []], [[START], [ONE, (((1, 1, -1),), ())], []])
        self.check(False, BACK, [[START], [ONE], [(((2, 0, -1),), ())]], [[START], [ONE], [(((1, 1, 0),), ())]])
        self.check(False, BACK, [[START], [ONE, (((1, 1, 0), (0, -1, 0)), ())], []], [[START], [ONE, ((), ())], []])

    def test_runs_that_there_are_not(self):
        for reel in [('abc', 1, True), ('abc', 2, False), ('aa', 2, True)]:
            runs = all_runs(reel)
            case = ((reel, ('zz', 0, False)), ('?',) * 2 + ('',), ())
            full = [all_rows(case, k) for k in range(4)]
            full[3] = [row for row in full[3] if not ends_by_words(case, row)]
            table = [full[0], full[1], full[2], []]
            self.check(True, case, table)
            for run in product(range(-2, 6), range(-2, 5), range(-2, 3)):
                for other in all_runs(case[0][1]):
                    row = ((run, other), ())
                    if row not in full[2]:
                        self.check(False, case, [full[0], full[1], full[2] + [row], []])
                    if run[0] + other[0] == 3 and row not in full[3]:
                        self.check(False, case, table[:3] + [[row]])
                    elif run in runs and run[0] + other[0] == 3:
                        self.check(True, case, table[:3] + [[row]])

    def test_rows_left_out_twice_or_in_another_order(self):
        for case in random_cases(26, 60):
            table = find_table(case)
            if table is None:
                continue
            self.check(True, case, [rows[::-1] for rows in table], [sorted(rows) for rows in table])
            self.check(False, case, table[:-1], table[1:], table + [[]], [[]] + table, tuple(table), table[::-1] + [[]])
            for k, rows in enumerate(table):
                for i in range(len(rows)):
                    self.check(False, case, table[:k] + [rows[:i] + rows[i + 1:]] + table[k + 1:])
                    self.check(False, case, table[:k] + [rows + [rows[i]]] + table[k + 1:])
                self.check(False, case, table[:k] + [tuple(rows)] + table[k + 1:])
                self.check(False, case, table[:k] + [dict.fromkeys(rows)] + table[k + 1:])

    def test_parts_changed(self):
        told = (('same', 0, 2), ('apart', 1, 2), ('of', 1, 0))
        for case in [BACK, ((('aab', 1, True), ('ab', 2, False)), ('a', 'a', 'a'), told)]:
            table = find_table(case)
            self.check(True, case, table)
            self.check(False, case, *parts_changed(table))

    def test_truths(self):
        self.check(False, BACK, [[(((False, -1, 0),), ())], [ONE], []], [[(((0, -1, False),), ())], [ONE], []])
        self.check(False, BACK, [[START], [(((True, 1, 0),), ())], []], [[START], [(((1, True, 0),), ())], []])
        self.check(False, BACK, [[START], [ONE, (((True, 1, 0),), ())], []], [[START], [(((1, 1, 0),), ()), True], []])
        told = (('same', 0, 1),)
        case = ((('a', 1, False), ('b', 1, False)), ('a', 'b'), told)
        table = [[(((0, -1, 0),) * 2, ())], [(((1, 0, 0), (0, -1, 0)), ((0, 0),))], []]
        self.check(True, case, table)
        for kept in [((False, 0),), ((0, False),), ((0, 0), (0, 0)), ((0, 2),), ((0, -1),), ((1, 0),), (), ([0, 0],), [(0, 0)]]:
            self.check(False, case, [table[0], [(table[1][0][0], kept)], []])

    def test_what_is_kept(self):
        case = ((('a', 1, False), ('b', 1, False)), ('a', 'b'), (('same', 0, 1),))
        first, one, other = find_table(case)[0][0], find_table(case)[1][0], (((0, -1, 0), (1, 0, 0)), ((0, 1),))
        self.check(True, case, [[first], [one], []])
        # a step leads from the other row to a row that ends
        self.check(False, case, [[first], [one, (((1, 0, 0), (0, -1, 0)), ((0, 1),))], []])
        self.check(True, case, [[first], [one, other], []])
        self.check(False, (case[0], case[1], ()), [[first], [one], []])

    def test_tables_of_other_cases(self):
        self.check(False, CASE, TABLE, [[first_row(CASE)]] + [[]] * 5)
        self.check(False, (BACK[0], ('b', 'd'), ()), TABLE)
        self.check(False, (BACK[0], ('d',), ()), TABLE, TABLE[:2])
        self.check(True, ((('bd', 0, False),), ('d', 'b'), ()), [[START], [], []])
        self.check(False, ((('bd', 0, False),), ('d', 'b'), ()), TABLE)
        for case in random_cases(27, 60):
            self.check(is_table_by_words(case, TABLE) if len(case[0]) == 1 else False, case, TABLE)

    def test_other_values(self):
        self.check(False, BACK, *ODD)
        self.check(False, BACK, *[[[START], value, []] for value in ODD])
        self.check(False, BACK, *[[[START], [ONE, value], []] for value in ODD])
        self.check(False, BACK, *[[[START], [(value, ())], []] for value in ODD])
        self.check(False, BACK, *[[[START], [(((1, 1, 0),), value)], []] for value in ODD if value != ()])
        self.check(False, BACK, *[[[START], [(((1, value, 0),), ())], []] for value in ODD if value is True or value != 1])


if __name__ == '__main__':
    unittest.main()
