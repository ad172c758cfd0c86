"""Stage 7: strangers."""

import copy
import random
import unittest
from itertools import product

from reelsplice.cuts import find_cut, is_cut
from reelsplice.strangers import fewest_strangers, find_loose, find_values, is_loose, shows
from tests.helper import (BACK, CASE, FULL, LONG, LOSSY, ODD, OPEN_TAPE, TURNING, all_loose, all_rows, all_runs,
                          ends_by_words, hashable, large_cases, mending_steps, parts_changed, random_cases, shown_by_words,
                          stands)

START = (((0, -1, 0),), ())
NUMBERS = [0, 1, 2, 5, 17, 10 ** 29]


def small_cases(seed, many):
    return random_cases(seed, many, frames=4, places=5)


def shows_by_words(case, values, number):
    """Whether dicts with loose rows as keys show a number, by the words of the document."""
    return shown_by_words(values, number, (((0, -1, 0),) * len(case[0]), ()),
                          lambda k, row: mending_steps(case, (1, None), k, row),
                          lambda row: ends_by_words(case, row))


class IsLoose(unittest.TestCase):

    def check(self, expected, case, *values):
        for value in values:
            self.assertIs(is_loose(case, value), expected, (case, value))

    def test_by_trying(self):
        for case in small_cases(51, 100):
            pairs = [(r, p) for r, reel in enumerate(case[0]) for p in range(len(reel[0]))] + [None]
            for tried in product(pairs, repeat=len(case[1])):
                self.assertIs(is_loose(case, tried), stands(case, tried), (case, tried))

    def test_cuts_are_loose_cuts(self):
        for case in random_cases(52, 100) + large_cases():
            cut = find_cut(case)
            if cut is not None:
                self.assertTrue(is_loose(case, cut))

    def test_sayings_that_name_a_stranger(self):
        stock, tape = (('ab', 2, False), ('ab', 2, False)), ('?', '?')
        for told in [('same', 0, 1), ('apart', 0, 1), ('of', 0, 1), ('off', 0, 0)]:
            case = (stock, tape, (told,))
            self.check(True, case, (None, None), (None, (0, 0)), (None, (1, 0)))
        self.check(True, (stock, tape, (('of', 1, 1),)), (None, (1, 0)), ((0, 0), None))
        self.check(False, (stock, tape, (('of', 1, 1),)), (None, (0, 0)), ((1, 0), (0, 0)))
        self.check(True, (stock, tape, (('same', 0, 1),)), ((0, 0), None), ((0, 0), (0, 1)))
        self.check(False, (stock, tape, (('same', 0, 1),)), ((0, 0), (1, 1)))

    def test_loss_counts_without_strangers(self):
        self.check(True, BACK, ((0, 0), None)[::-1], ((0, 1), None))
        self.check(False, BACK, (None, None), ((0, 0), None))

    def test_forms(self):
        loose = (None, (0, 0))
        self.check(True, BACK, loose)
        self.check(False, BACK, list(loose), loose + (None,), loose[:1], (None, [0, 0]), (None, (False, 0)), (0, (0, 0)))
        self.check(False, BACK, (None, (0, 2)), (None, (1, 0)), (None, (0, -1)), ((), (0, 0)), (False, (0, 0)))
        self.check(False, BACK, *[changed for changed in parts_changed(loose) if changed != loose])
        self.check(False, BACK, *ODD)
        self.check(False, BACK, *[(None, value) for value in ODD if value != (0, 0)])
        self.check(False, BACK, *[(value, (0, 0)) for value in ODD if value is not None])


class FindLoose(unittest.TestCase):

    def test_by_trying(self):
        strangers = []
        for case in small_cases(53, 250):
            found = [loose.count(None) for loose in all_loose(case)]
            loose, fewest = find_loose(case), fewest_strangers(case)
            if not found:
                self.assertIsNone(loose, case)
                self.assertIsNone(fewest, case)
            else:
                self.assertEqual(fewest, min(found), case)
                self.assertTrue(stands(case, loose), case)
                self.assertTrue(is_loose(case, loose), case)
                self.assertEqual(loose.count(None), fewest, case)
                self.assertEqual(fewest == 0, find_cut(case) is not None)
                self.assertEqual(fewest == 0, is_cut(case, loose))
            self.assertEqual((loose, fewest), (find_loose(case), fewest_strangers(case)))
            strangers.append(fewest)
        for number in (None, 0, 1, 2):
            self.assertGreater(strangers.count(number), 2)

    def test_none(self):
        for case in [((('bd', 0, False),), ('d', 'b'), ()), ((('ab', 1, False),), (), ()), (FULL, OPEN_TAPE[:15], ()),
                     (FULL, OPEN_TAPE[:15] + ('z',), ())]:
            self.assertIsNone(find_loose(case))
            self.assertIsNone(fewest_strangers(case))

    def test_no_frames(self):
        case = ((('ab', 2, False),), (), ())
        self.assertEqual((find_loose(case), fewest_strangers(case)), ((), 0))

    def test_all_are_strangers(self):
        case = ((('ab', 2, True),), ('z', '', 'm'), ())
        self.assertEqual((find_loose(case), fewest_strangers(case)), ((None, None, None), 3))

    def test_frames_put_into_a_cut(self):
        chance = random.Random(54)
        for stock in (FULL[:3], LOSSY[:3], TURNING, LONG):
            cut = find_cut((stock, ('?',) * 12, ()))
            if cut is None:
                continue
            tape = [stock[r][0][p] for r, p in cut]
            for _ in range(4):
                tape.insert(chance.randrange(len(tape) + 1), 'z')
            case = (stock, tuple(tape), ())
            self.assertEqual(fewest_strangers(case), 4)
            self.assertTrue(stands(case, find_loose(case)))

    def test_large(self):
        for case in large_cases():
            loose, fewest = find_loose(case), fewest_strangers(case)
            self.assertEqual(loose is None, fewest is None)
            self.assertEqual(fewest == 0, find_cut(case) is not None)
            if loose is not None:
                self.assertTrue(stands(case, loose))
                self.assertEqual(loose.count(None), fewest)


class Values(unittest.TestCase):

    def check(self, expected, case, value, *numbers):
        before = repr(value)
        for number in numbers:
            self.assertIs(shows(case, value, number), expected, (case, value, number))
        self.assertEqual(repr(value), before)

    def test_they_show_the_fewest(self):
        for case in random_cases(55, 250):
            values, fewest = find_values(case), fewest_strangers(case)
            if fewest is None:
                self.check(True, case, values, *NUMBERS)
            else:
                self.check(True, case, values, *range(fewest + 1))
                self.check(False, case, values, fewest + 1, fewest + 2, 10 ** 29)

    def test_they_are_right_by_words(self):
        for case in small_cases(56, 40):
            values, fewest = find_values(case), fewest_strangers(case)
            for k, costs in enumerate(values):
                rows = all_rows(case, k, loose=True)
                for row, cost in costs.items():
                    self.assertIn(row, rows)
                    self.assertIs(type(cost), int)
                    self.assertTrue(0 <= cost <= 10 ** 20)
            for number in [0, 1, 2, 3]:
                expected = fewest is None or number <= fewest
                self.assertEqual(shows_by_words(case, values, number), expected)
                self.check(expected, case, values, number)

    def test_all_loose_rows(self):
        for case in small_cases(57, 60):
            values = [{row: 0 for row in all_rows(case, k, loose=True)} for k in range(len(case[1]) + 1)]
            self.check(True, case, values, 0)
            ending = [row for row in values[-1] if ends_by_words(case, row)]
            self.check(not ending, case, values, 1)

    def test_numbers_changed(self):
        chance = random.Random(58)
        for case in small_cases(59, 60):
            values = find_values(case)
            for _ in range(12):
                k = chance.randrange(len(values))
                changed = copy.deepcopy(values)
                row = chance.choice(sorted(changed[k]))
                changed[k][row] = max(0, changed[k][row] + chance.choice([-1, 1, 2]))
                for number in (0, 1, 2):
                    self.check(shows_by_words(case, changed, number), case, changed, number)

    def test_rows_left_out_or_put_in(self):
        for case in small_cases(60, 50):
            values = find_values(case)
            for k, costs in enumerate(values):
                for row in costs:
                    fewer = values[:k] + [{other: v for other, v in costs.items() if other != row}] + values[k + 1:]
                    self.check(False, case, fewer, *NUMBERS)
                for row in all_rows(case, k, loose=True):
                    if row not in costs:
                        for v in (0, 9):
                            more = values[:k] + [{**costs, row: v}] + values[k + 1:]
                            self.check(shows_by_words(case, more, 1), case, more, 1)

    def test_order_of_keys_means_nothing(self):
        for case in small_cases(61, 40):
            values, fewest = find_values(case), fewest_strangers(case)
            for order in (sorted, lambda rows: sorted(rows, reverse=True)):
                turned = [{row: costs[row] for row in order(costs)} for costs in values]
                self.assertEqual(turned, values)
                self.check(True, case, turned, fewest or 0)
                self.check(fewest is None, case, turned, (fewest or 0) + 1)

    def test_dicts_left_out_or_exchanged(self):
        for case in [CASE, BACK]:
            values = find_values(case)
            self.check(True, case, values, 0)
            for other in [values[:-1], values[1:], values + [{}], [{}] + values, values[::-1], tuple(values), [], [{}]]:
                self.check(False, case, other, 0, 1)
            for k in range(len(values)):
                for other in [{}, None, [], list(values[k].items()), list(values[k]), values[k - 1], ()]:
                    self.check(False, case, values[:k] + [other] + values[k + 1:], 0)

    def test_values_of_another_case(self):
        values = find_values(BACK)
        self.check(True, (BACK[0], ('d', 'd'), ()), find_values((BACK[0], ('d', 'd'), ())), 1)
        self.check(False, CASE, values, 0)
        self.check(False, (BACK[0], ('d',), ()), values, 0)
        self.check(False, (BACK[0], ('?', '?'), ()), values, 0)
        self.check(False, BACK, find_values(CASE), 0)
        # these have a row more than is needed there
        self.check(True, (BACK[0], ('d', ''), ()), values, 1)

    def test_keys_of_other_forms(self):
        told = (('same', 0, 2), ('apart', 1, 2))
        case = ((('ab', 2, True), ('b', 1, False)), ('?', 'b', '?'), told)
        values = find_values(case)
        self.check(True, case, values, 0)
        for k, costs in enumerate(values):
            for row in costs:
                for changed in parts_changed(row):
                    if hashable(changed) and changed not in all_rows(case, k, loose=True):
                        one = {key: v for key, v in costs.items() if key != row}
                        self.check(False, case, values[:k] + [{**one, changed: costs[row]}] + values[k + 1:], 0)
                        self.check(False, case, values[:k] + [{**costs, changed: 3}] + values[k + 1:], 0)
        for value in ODD:
            if hashable(value):
                self.check(False, case, values[:2] + [{**values[2], value: 0}] + values[3:], 0)

    def test_runs_that_there_are_not(self):
        for reel in [('a', 1, True), ('ab', 1, False), ('ab', 2, True), ('abc', 1, True), ('abc', 3, False)]:
            many = len(reel[0])
            runs = all_runs(reel)
            case = ((reel,), ('?',) * 4, ())
            values = [{row: 0 for row in all_rows(case, k, loose=True)} for k in range(5)]
            self.check(True, case, values, 0)
            for run in product(range(-2, many + 3), range(-2, many + 2), range(-2, 3)):
                more = {**values[4], ((run,), ()): 0}
                self.check(run in runs, case, values[:4] + [more], 0)
            both = ((reel, ('ab', 2, False)), ('?',) * 4, ())
            values = [{row: 0 for row in all_rows(both, k, loose=True)} for k in range(5)]
            for run in [(-1, -1, 0), (-1, 0, 1), (0, 0, 0), (0, -1, 1), (0, 0, 1), (0, 0, -1), (1, -1, 0), (2, -1, 1)]:
                for other in all_runs(both[0][1]):
                    more = {**values[4], ((run, other), ()): 0}
                    self.check(False, both, values[:4] + [more], 0)

    def test_more_frames_used_than_there_are(self):
        for case in small_cases(62, 30):
            values = [{row: 0 for row in all_rows(case, k, loose=True)} for k in range(len(case[1]) + 1)]
            rows = [(runs, ()) for runs in product(*[all_runs(reel) for reel in case[0]])]
            for k, costs in enumerate(values):
                for row in rows:
                    if sum(run[0] for run in row[0]) > k:
                        self.check(False, case, values[:k] + [{**costs, row: 0}] + values[k + 1:], 0)

    def test_truths_in_keys(self):
        case = ((('a', 1, False),), ('a', '?'), (('same', 0, 1),))
        values = find_values(case)
        one = (((1, 0, 0),), ((0, 0),))
        self.assertIn(one, values[1])
        self.check(True, case, values, 1)
        for truth in [(((True, 0, 0),), ((0, 0),)), (((1, False, 0),), ((0, 0),)), (((1, 0, False),), ((0, 0),)),
                      (((1, 0, 0),), ((False, 0),)), (((1, 0, 0),), ((0, False),))]:
            self.assertEqual(truth, one)
            costs = {truth if row == one else row: v for row, v in values[1].items()}
            self.check(False, case, [values[0], costs, values[2]], 0, 1)
        self.check(False, case, [{(((False, -1, 0),), ()): 0}] + values[1:], 0)

    def test_numbers_of_other_kinds(self):
        for case in [CASE, BACK]:
            values = find_values(case)
            for k, costs in enumerate(values):
                for row in costs:
                    for other in [None, False, True, '0', -1, [], (0,), {}]:
                        self.check(False, case, values[:k] + [{**costs, row: other}] + values[k + 1:], 0)
        self.check(False, BACK, [{START: 1}] + find_values(BACK)[1:], 0)
        self.check(False, BACK, [{START: False}] + find_values(BACK)[1:], 0)

    def test_frames_that_may_be_kept_or_not(self):
        case = ((('a', 1, False), ('b', 1, False)), ('a', 'b'), (('same', 0, 1),))
        values = find_values(case)
        unused, one = ((0, -1, 0), (0, -1, 0)), ((1, 0, 0), (0, -1, 0))
        self.assertEqual(values[1], {(unused, ()): 1, (one, ((0, 0),)): 0})
        self.check(True, case, values, 0, 1)
        self.check(False, case, values, 2)
        # a frame that is not kept is not asked, so from this row the second frame may be of the other reel
        wider = [values[0], {**values[1], (one, ()): 5}, values[2]]
        self.check(False, case, wider, 0)
        both = (((1, 0, 0), (1, 0, 0)), ())
        self.check(True, case, [values[0], wider[1], {**values[2], both: 5}], 0, 1)
        for kept in [((1, 0),), ((0, 2),), ((0, 0), (0, 1)), ((-1, 0),)]:
            self.check(False, case, [values[0], {**values[1], (one, kept): 5}, values[2]], 0)

    def test_other_values(self):
        for case in [CASE, BACK]:
            for value in ODD:
                self.check(False, case, value, 0, 1)

    def test_large(self):
        for stock in (FULL, LOSSY, TURNING, LONG):
            case = (stock, OPEN_TAPE[:15] + ('z',), (('apart', 0, 14), ('same', 3, 9)))
            values, fewest = find_values(case), fewest_strangers(case)
            self.check_large(case, values, fewest)
            self.assertEqual(values, find_values(case))

    def check_large(self, case, values, fewest):
        if fewest is None:
            self.assertTrue(shows(case, values, 10 ** 29))
        else:
            self.assertTrue(shows(case, values, fewest))
            self.assertFalse(shows(case, values, fewest + 1))
        row = max(values[9])
        del values[9][row]
        self.assertFalse(shows(case, values, 0))
        values[9][row] = find_values(case)[9][row]

    def test_results_are_new(self):
        for case in [CASE, BACK]:
            first = find_values(case)
            kept = copy.deepcopy(first)
            first[1].clear()
            first[0][START] = 7
            first.pop()
            self.assertEqual(find_values(case), kept)


if __name__ == '__main__':
    unittest.main()
