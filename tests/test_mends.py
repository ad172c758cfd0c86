"""Stage 8: mends."""

import random
import unittest
from itertools import product

from reelsplice.cuts import find_cut
from reelsplice.mends import cost, find_mend_values, find_mended, is_mended, least_cost, shows_mend
from reelsplice.strangers import fewest_strangers, find_loose
from tests.helper import (BACK, CASE, FULL, LONG, LOSSY, ODD, OPEN_TAPE, TURNING, ValuesChecks, all_loose, all_rows,
                          ends_by_words, large_cases, mending_steps, parts_changed, parts_exchanged, random_cases,
                          shown_by_words, stands)

ALL_PRICES = list(product(range(10), repeat=2))
SOME_PRICES = [(0, 0), (0, 4), (3, 0), (1, 1), (2, 5), (5, 2), (9, 1), (9, 9)]


def small_cases(seed, many):
    return random_cases(seed, many, frames=4, places=5)


def unread(case):
    """A case with its frames unread."""
    return (case[0], ('?',) * len(case[1]), case[2])


def all_mended(case):
    """All mended cuts: where no frame is read, each sign fits."""
    return all_loose(unread(case))


def cost_by_hand(case, prices, mended):
    stock, tape, _ = case
    strangers = [k for k, pair in enumerate(mended) if pair is None]
    misread = []
    for k, pair in enumerate(mended):
        if pair is not None:
            r, p = pair
            if tape[k] != '?' and stock[r][0][p] not in tape[k]:
                misread.append(k)
    return prices[0] * len(strangers) + prices[1] * len(misread)


class IsMended(unittest.TestCase):

    def check(self, expected, case, *values):
        for value in values:
            self.assertIs(is_mended(case, value), expected, (case, value))

    def test_by_trying(self):
        for case in small_cases(71, 100):
            pairs = [(r, p) for r, reel in enumerate(case[0]) for p in range(len(reel[0]))] + [None]
            for tried in product(pairs, repeat=len(case[1])):
                self.assertIs(is_mended(case, tried), stands(unread(case), tried), (case, tried))

    def test_cuts_and_loose_cuts(self):
        for case in random_cases(72, 100) + large_cases():
            for found in (find_cut(case), find_loose(case)):
                if found is not None:
                    self.check(True, case, found)

    def test_signs_need_not_fit(self):
        self.check(True, BACK, ((0, 0), (0, 1)), (None, (0, 1)), ((0, 1), None))
        self.check(False, BACK, ((0, 1), (0, 0)), ((0, 0), (0, 0)), (None, None))
        self.check(True, (BACK[0], ('', 'z'), ()), ((0, 0), (0, 1)), (None, (0, 0)))

    def test_sayings(self):
        stock, tape = (('ab', 2, False), ('ab', 2, False)), ('z', 'z')
        self.check(True, (stock, tape, (('same', 0, 1),)), ((0, 0), (0, 1)), (None, (1, 0)), ((1, 1), None))
        self.check(False, (stock, tape, (('same', 0, 1),)), ((0, 0), (1, 1)))
        self.check(False, (stock, tape, (('of', 0, 1),)), ((0, 0), None), ((0, 1), (1, 1)))
        self.check(True, (stock, tape, (('off', 0, 1),)), ((0, 0), None), (None, (1, 0)), (None, None))

    def test_changed(self):
        chance = random.Random(73)
        for case in random_cases(74, 60) + large_cases()[::4]:
            mended = find_mended(case, chance.choice(SOME_PRICES))
            if mended is None:
                continue
            self.check(True, case, mended)
            self.check(False, case, mended[:-1] if mended else [], mended + (None,), mended + ((0, 0),), list(mended))
            for other in parts_exchanged(mended):
                self.check(stands(unread(case), other), case, other)
            for k, pair in enumerate(mended):
                for r in range(-1, 5):
                    for p in range(-1, 11):
                        other = mended[:k] + ((r, p),) + mended[k + 1:]
                        inside = 0 <= r < len(case[0]) and 0 <= p < len(case[0][r][0])
                        self.check(inside and stands(unread(case), other), case, other)
                if pair is not None:
                    for changed in parts_changed(pair):
                        if repr(changed) != repr(pair) and changed is not None:
                            self.check(False, case, mended[:k] + (changed,) + mended[k + 1:])

    def test_truths(self):
        case = ((('ab', 1, False), ('c', 1, False)), ('z', 'c'), ())
        self.check(True, case, ((0, 0), (0, 1)), ((0, 1), (1, 0)), ((0, 0), None))
        self.check(False, case, ((0, 0), (0, True)), ((0, False), (0, 1)), ((False, 0), (0, 1)), ((0, 1), (True, 0)))
        self.check(False, case, ((0, 0), False), ((0, 0), 0), ((0, 0), ()))

    def test_other_values(self):
        self.check(False, BACK, *ODD)
        self.check(False, BACK, *[((0, 0), value) for value in ODD if value is not None])
        self.check(False, BACK, *[((0, value), (0, 1)) for value in ODD if type(value) is not int or value != 0])
        self.check(True, ((('ab', 2, False),), (), ()), ())
        self.check(False, ((('ab', 1, False),), (), ()), *ODD)


class Cost(unittest.TestCase):

    def test_by_hand(self):
        case = ((('abc', 2, False), ('d', 1, False)), ('x', 'b', '', '?', 'ad'), ())
        mended = ((0, 0), (0, 1), None, (0, 2), (1, 0))
        self.assertEqual([cost(case, prices, mended) for prices in [(1, 0), (0, 1), (3, 5), (9, 9)]], [1, 1, 8, 18])
        mended = (None, None, (0, 0), (0, 2), None)
        self.assertEqual([cost(case, prices, mended) for prices in [(1, 0), (0, 1), (3, 5), (0, 0)]], [3, 1, 14, 0])
        self.assertEqual(cost(((('ab', 2, False),), (), ()), (9, 9), ()), 0)

    def test_of_all_mended_cuts(self):
        for case in small_cases(75, 60):
            before = repr(case)
            for mended in all_mended(case):
                for prices in SOME_PRICES:
                    told = cost(case, prices, mended)
                    self.assertIs(type(told), int)
                    self.assertEqual(told, cost_by_hand(case, prices, mended))
            self.assertEqual(repr(case), before)


class FindMended(unittest.TestCase):

    def check_least(self, case, prices, least):
        mended = find_mended(case, prices)
        self.assertEqual(least_cost(case, prices), least, (case, prices))
        self.assertEqual(mended, find_mended(case, prices))
        if least is None:
            self.assertIsNone(mended)
        else:
            self.assertTrue(is_mended(case, mended), (case, mended))
            self.assertTrue(stands(unread(case), mended), (case, mended))
            self.assertEqual(cost_by_hand(case, prices, mended), least, (case, prices, mended))
            self.assertEqual(cost(case, prices, mended), least)

    def test_by_trying(self):
        nothing = 0
        for number, case in enumerate(small_cases(76, 200)):
            found = all_mended(case)
            nothing += not found
            for prices in ALL_PRICES if number < 40 else SOME_PRICES:
                least = min([cost_by_hand(case, prices, mended) for mended in found], default=None)
                self.check_least(case, prices, least)
        self.assertTrue(20 < nothing < 150, nothing)

    def test_nothing_costs(self):
        for case in random_cases(77, 60):
            fewest = fewest_strangers(case)
            self.assertIn(least_cost(case, (0, 0)), (0, None))
            if fewest is not None:
                self.assertEqual(least_cost(case, (0, 9)), 0)
                self.assertLessEqual(least_cost(case, (1, 9)), fewest)

    def test_none(self):
        for case in [((('bd', 0, False),), (), ()), ((('ab', 0, False),), ('?',), ()), (FULL, OPEN_TAPE[:15], ()),
                     ((('ab', 0, False), ('ab', 0, False)), ('?',) * 4, (('of', 0, 0), ('off', 0, 0), ('of', 1, 0),
                                                                         ('off', 1, 0)))]:
            for prices in SOME_PRICES:
                self.check_least(case, prices, None)

    def test_no_frames(self):
        for prices in SOME_PRICES:
            self.check_least(((('ab', 2, False),), (), ()), prices, 0)
            self.check_least(((('ab', 1, False),), (), ()), prices, None)

    def test_all_but_one_are_strangers(self):
        for stock, tape in [((('a', 0, False),), OPEN_TAPE), ((('a', 0, False),), ('z',) * 7 + ('a',) + ('z',) * 8),
                            ((('ab', 1, False),), ('b',) + ('z',) * 15), ((('a', 0, True),), ('',) * 16)]:
            case = (stock, tape, ())
            misread = int(tape[0] == '')
            for prices in SOME_PRICES:
                if len(stock[0][0]) == 1 or prices[1] > prices[0]:
                    self.check_least(case, prices, 15 * prices[0] + misread * prices[1])
            mended = find_mended(case, (1, 9))
            self.assertEqual(mended.count(None), 15)

    def test_large(self):
        for case in large_cases():
            loose = find_loose(case)
            for prices in [(1, 9), (5, 2), (0, 0)]:
                mended, least = find_mended(case, prices), least_cost(case, prices)
                if mended is None:
                    self.assertIsNone(loose)
                    self.assertIsNone(least)
                else:
                    self.check_least(case, prices, least)
                    if loose is not None:
                        self.assertLessEqual(least, prices[0] * loose.count(None))

    def test_misread_frames_of_a_cut(self):
        chance = random.Random(78)
        for stock in (FULL, LONG, TURNING):
            frames = sum(len(reel[0]) for reel in stock)
            cut = find_cut((stock, ('?',) * min(frames, 16), ()))
            tape = [stock[r][0][p] for r, p in cut]
            for k in chance.sample(range(len(tape)), 3):
                tape[k] = 'z'
            # no frame can be left out of the reels without loss
            if all(reel[1] == 0 for reel in stock):
                self.check_least((stock, tuple(tape), ()), (9, 4), 12)
            self.assertLessEqual(least_cost((stock, tuple(tape), ()), (9, 4)), 12)


class MendValues(ValuesChecks, unittest.TestCase):

    prices = (3, 2)
    some_cases = small_cases(79, 150)
    two_cases = [CASE, BACK, ((('bd', 0, False),), ('d',), ())]
    told_case = ((('ab', 2, True), ('b', 1, False)), ('?', 'a', 'b'), (('same', 0, 2), ('apart', 1, 2)))

    def find(self, case):
        return find_mend_values(case, self.prices)

    def least(self, case):
        return least_cost(case, self.prices)

    def shown(self, case, value, number):
        return shows_mend(case, self.prices, value, number)

    def by_words(self, case, values, number):
        return shown_by_words(values, number, (((0, -1, 0),) * len(case[0]), ()),
                              lambda k, row: mending_steps(case, self.prices, k, row),
                              lambda row: ends_by_words(case, row))

    def keys(self, case, k):
        return all_rows(case, k, loose=True)

    def test_large(self):
        for stock in (FULL, LOSSY, LONG):
            self.check_large((stock, OPEN_TAPE[:15] + ('z',), (('apart', 0, 14), ('same', 3, 9))))

    def test_values_of_the_case_unread(self):
        for case in self.some_cases[:80]:
            values = self.find(unread(case))
            for number in (0, 1, 4):
                self.check(self.by_words(case, values, number), case, values, number)
            values = self.find(case)
            for number in (0, 1, 4):
                self.check(self.by_words(unread(case), values, number), unread(case), values, number)

    def test_values_for_other_prices(self):
        shown = 0
        for case in self.some_cases[:60]:
            for prices in SOME_PRICES:
                values = find_mend_values(case, prices)
                least = least_cost(case, prices)
                for number in {0, 1, least or 0, (least or 0) + 1}:
                    expected = self.by_words(case, values, number)
                    shown += expected
                    self.check(expected, case, values, number)
        self.assertGreater(shown, 50)
        case = ((('a', 1, False),), ('z', 'z'), ())
        self.check(False, case, find_mend_values(case, (4, 4)), 0)
        self.check(True, case, find_mend_values(case, (0, 1)), 0)

    def test_values_at_other_prices(self):
        for prices in [(0, 0), (0, 7), (7, 0), (9, 9)]:
            for case in self.some_cases[:50]:
                values, least = find_mend_values(case, prices), least_cost(case, prices)
                self.assertTrue(shows_mend(case, prices, values, least or 0))
                self.assertIs(shows_mend(case, prices, values, (least or 0) + 1), least is None)

    def test_truths_in_keys(self):
        case = ((('a', 1, False),), ('b', '?'), (('same', 0, 1),))
        values = self.find(case)
        one = (((1, 0, 0),), ((0, 0),))
        self.assertEqual(values[1][one], 2)
        for truth in [(((True, 0, 0),), ((0, 0),)), (((1, False, 0),), ((0, 0),)), (((1, 0, False),), ((0, 0),)),
                      (((1, 0, 0),), ((False, 0),)), (((1, 0, 0),), ((0, False),))]:
            self.assertEqual(truth, one)
            part = {truth if row == one else row: v for row, v in values[1].items()}
            self.check(False, case, [values[0], part, values[2]], 0, 1)
        self.check(False, case, [{(((False, -1, 0),), ()): 0}] + values[1:], 0)

    def test_steps_of_misread_frames_are_asked(self):
        # the loose rows of strangers alone are not enough where a frame may be misread
        case = ((('a', 1, False),), ('z',), ())
        first, one = (((0, -1, 0),), ()), (((1, 0, 0),), ())
        self.check(True, case, [{first: 0}, {first: 3, one: 2}], 0, 2)
        self.check(True, case, [{first: 0}, {first: 1, one: 0}], 0)
        self.check(False, case, [{first: 0}, {first: 3}], 0)
        self.check(False, case, [{first: 0}, {first: 3, one: 3}], 0)
        self.check(False, case, [{first: 0}, {first: 4, one: 2}], 0)


if __name__ == '__main__':
    unittest.main()
