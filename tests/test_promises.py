"""What the document promises over the whole program: points [1], [2] and [3]."""

import copy
import importlib
import inspect
import random
import unittest

from reelsplice.comparing import find_only, implies, same_cuts
from reelsplice.counts import count_cuts, nth_cut, number_of
from reelsplice.cuts import find_cut, is_cut
from reelsplice.desk import Desk
from reelsplice.doubts import find_marked
from reelsplice.errors import InvalidEvent, InvalidText, Refused
from reelsplice.heads import find_dead_table
from reelsplice.logs import log
from reelsplice.mends import find_mend_values, find_mended, least_cost, shows_mend
from reelsplice.possible import possible
from reelsplice.splices import find_splice_values, shows_splices, splice_counts
from reelsplice.strangers import fewest_strangers, find_loose, find_values, shows
from reelsplice.tables import find_table, first_row, is_table
from reelsplice.texts import read_tape
from reelsplice.twins import find_pair_table
from reelsplice.watchers import Watcher
from reelsplice.watchlogs import watch_log
from tests.helper import (BACK, CASE, SHORT, WATCH, all_cuts, all_loose, case_behind, made, random_cases, random_event,
                          random_reel, stands)
from tests.test_language import CLASSES, INTERFACE

PRICES = (2, 3)
TOLD = (CASE[0], CASE[1], (('same', 0, 1),))
CUT = ((0, 0), (0, 1), (1, 0), (1, 1), (0, 2))
ROW = (((2, 1, 1), (0, -1, 0)), ())


def desk():
    made_desk = Desk(CASE[0], 5)
    made_desk.read(0, 'a')
    made_desk.say(('same', 0, 1))
    return made_desk


def watcher():
    made_watcher = Watcher(*WATCH)
    for frame in ('a', 'b', 'c'):
        made_watcher.frame(frame)
    return made_watcher


# for each function of the interface the arguments of some calls
CALLS = {
    'is_stock': [(CASE[0],), ([CASE[0]],)],
    'is_tape': [(CASE[1],), ([['a']],)],
    'is_case': [(CASE,), (list(CASE),)],
    'is_saying': [(5, 2, ('same', 0, 4)), (5, 2, ['same', 0, 4])],
    'is_cut': [(CASE, CUT), (CASE, list(CUT))],
    'find_cut': [(CASE,), (BACK,)],
    'first_row': [(CASE,)],
    'steps': [(CASE, 0, first_row(CASE)), (CASE, 2, ROW)],
    'ends': [(CASE, (((3, 2, 1), (2, 1, 1)), ())), (CASE, first_row(CASE))],
    'find_table': [(CASE,), (BACK,)],
    'is_table': [(BACK, find_table(BACK)), (CASE, find_table(BACK))],
    'count_cuts': [(CASE,)],
    'nth_cut': [(CASE, 1), (CASE, 2)],
    'number_of': [(CASE, CUT)],
    'possible': [(CASE,), (BACK,)],
    'signs_of': [(CASE,)],
    'sure_frames': [(CASE,), (BACK,)],
    'is_loose': [(BACK, (None, (0, 0)))],
    'find_loose': [(BACK,)],
    'fewest_strangers': [(BACK,)],
    'find_values': [(BACK,), (TOLD,)],
    'shows': [(TOLD, find_values(TOLD), 0), (BACK, [{}], 0)],
    'is_mended': [(BACK, ((0, 0), (0, 1)))],
    'cost': [(BACK, PRICES, ((0, 0), (0, 1)))],
    'find_mended': [(BACK, PRICES)],
    'least_cost': [(BACK, PRICES)],
    'find_mend_values': [(BACK, PRICES), (TOLD, PRICES)],
    'shows_mend': [(BACK, PRICES, find_mend_values(BACK, PRICES), 2)],
    'splices': [(CUT,)],
    'splice_counts': [(CASE,), (BACK,)],
    'cut_with': [(CASE, 4), (CASE, 3)],
    'find_splice_values': [(CASE,), (BACK,)],
    'shows_splices': [(CASE, find_splice_values(CASE), 2)],
    'shares': [(CUT, 3)],
    'share_counts': [(CASE,)],
    'cut_of_shares': [(CASE, (3, 2))],
    'find_only': [(CASE, TOLD)],
    'implies': [(TOLD, CASE)],
    'same_cuts': [(TOLD, CASE)],
    'narrowed': [(CASE,)],
    'merged': [(('?', 'ab'), ('x', 'bc'))],
    'sign_counts': [(CASE, 1)],
    'best_frame': [(CASE,)],
    'write_tape': [(CASE[1],)],
    'read_tape': [('[?][ac]',)],
    'log': [(desk(),)],
    'is_log': [(CASE[0], 5, log(desk())), (CASE[0], 5, [log(desk())])],
    'replayed': [(CASE[0], 5, log(desk()))],
    'is_watch': [(WATCH,), (list(WATCH),)],
    'reach': [(WATCH[0], (((1, 0, 0), (0, -1, 0)), ()))],
    'is_whole': [(WATCH, ('a',), CUT)],
    'is_dead_table': [(WATCH, ('b',), find_dead_table(WATCH, ('b',)))],
    'find_whole': [(WATCH, ('a',)), (WATCH, ('b',))],
    'find_dead_table': [(WATCH, ('a',)), (WATCH, ('b',))],
    'lengths': [(SHORT, ()), (WATCH, ('b',))],
    'next_letters': [(WATCH, ('a',))],
    'can_end': [(SHORT, ('a',))],
    'verdict': [(WATCH, ('a',), 0)],
    'pairs_at': [(WATCH, ('a',), 0), (WATCH, ('b',), 0)],
    'find_marked': [(WATCH, ('a', 'b'), 0), (WATCH, ('b',), 0)],
    'pairs_shown': [(WATCH, ('a', 'b'), 0, find_marked(WATCH, ('a', 'b'), 0)), (WATCH, ('a',), 0, [])],
    'find_parted': [(WATCH, ('a',), 0)],
    'longest_doubt': [(WATCH, ('a',), 0)],
    'find_doubt': [(WATCH, ('a',), 0)],
    'find_twins': [(WATCH, ('a',), 0)],
    'find_pair_table': [(WATCH, ('a',), 0), (WATCH, ('a', 'b', 'c'), 0)],
    'is_pair_table': [(WATCH, ('a',), 0, find_pair_table(WATCH, ('a',), 0))],
    'settling': [(WATCH, ('a',), 0)],
    'watch_log': [(watcher(),)],
    'first_watch_fault': [(WATCH, watch_log(watcher())), (WATCH, [1])],
    'is_watch_log': [(WATCH, watch_log(watcher())), (WATCH, [[]])],
    'resumed_watcher': [(WATCH, watch_log(watcher()))],
}


def functions():
    """Each function of the interface by its name."""
    found = {}
    for file, names in INTERFACE.items():
        module = importlib.import_module('reelsplice.' + file)
        for name in names:
            if not inspect.isclass(getattr(module, name)):
                found[name] = getattr(module, name)
    return found


def spoilt(value):
    """Changes all lists and dicts of a value, at any depth."""
    if isinstance(value, (list, tuple)):
        for part in value:
            spoilt(part)
    if isinstance(value, dict):
        for part in value.values():
            spoilt(part)
        value['more'] = 'more'
    if isinstance(value, list):
        value.append('more')
        value.reverse()


def shown(value):
    """A value as a text; a desk or a watcher as what it tells."""
    if isinstance(value, tuple):
        return '(' + ', '.join(shown(part) for part in value) + ')'
    if isinstance(value, Desk):
        return repr((value.case(), value.cut(), log(value)))
    if isinstance(value, Watcher):
        return repr((value.head(), value.watch(), value.has_ended(), value.told(), watch_log(value)))
    return repr(value)


class Conventions(unittest.TestCase):
    """Point [2]."""

    def test_each_function_is_called_here(self):
        self.assertEqual(set(functions()), set(CALLS))

    def test_arguments_stay_and_results_are_new_and_equal(self):
        for name, function in functions().items():
            for arguments in CALLS[name]:
                before = shown(arguments)
                first = function(*arguments)
                told = shown(first)
                self.assertEqual(shown(arguments), before, name)
                self.assertEqual(shown(function(*copy.deepcopy(arguments))), told, name)
                spoilt(first)
                self.assertEqual(shown(arguments), before, name)
                self.assertEqual(shown(function(*arguments)), told, name)

    def test_arguments_are_not_kept(self):
        for name, function in functions().items():
            for arguments in CALLS[name]:
                told = shown(function(*arguments))
                given = copy.deepcopy(arguments)
                kept = function(*given)
                spoilt(given)
                self.assertEqual(shown(kept), told, name)

    def test_methods(self):
        for thing in (desk(), watcher()):
            for path, methods in CLASSES.items():
                if path.endswith('.' + type(thing).__name__):
                    for name in methods:
                        if name not in ('__eq__', 'undo', 'read', 'say', 'drop', 'frame', 'again', 'end'):
                            arguments = (0,) if name == 'possible' else ()
                            first = getattr(thing, name)(*arguments)
                            told, before = repr(first), shown(thing)
                            spoilt(first)
                            self.assertEqual(repr(getattr(thing, name)(*arguments)), told)
                            self.assertEqual(shown(thing), before)

    def test_lists_of_errors_are_new(self):
        for call, arguments in [(Desk, (CASE[0], 4)), (Watcher, (WATCH[0], 0, 4)), (desk().read, (0, 'x')),
                                (desk().say, (('apart', 0, 1),)), (watcher().frame, ('x',)), (watcher().end, ())]:
            tables = []
            for _ in range(2):
                with self.assertRaises(Refused) as caught:
                    call(*arguments)
                tables.append(repr(caught.exception.table))
                spoilt(caught.exception.table)
            self.assertEqual(tables[0], tables[1])

    def test_numbers_in_values_are_small_enough(self):
        for case in random_cases(251, 60):
            for values in (find_values(case), find_mend_values(case, (9, 9)), find_splice_values(case)):
                self.assertTrue(all(0 <= cost <= 10 ** 20 for part in values for cost in part.values()))

    def test_a_call_that_raises_changes_no_state(self):
        for thing, events in [(desk(), [('read', 9, 'a'), ('read', 0, 'x'), ('say', 7), ('drop', 4)]),
                              (watcher(), [('frame', 'x'), ('frame', 7), ('again', 9, 'a'), ('again', 0, 'x'), ('end',)])]:
            for event in events:
                before = shown(thing)
                with self.assertRaises((InvalidEvent, Refused)):
                    made(thing, event)
                self.assertEqual(shown(thing), before)
        self.assertRaises(InvalidText, read_tape, '[')


class Guarantees(unittest.TestCase):
    """Point [3]."""

    def test_a_cut_or_a_table(self):
        for case in random_cases(252, 150):
            cut, table = find_cut(case), find_table(case)
            self.assertNotEqual(cut is None, table is None)
            self.assertTrue(is_table(case, table) if cut is None else is_cut(case, cut))

    def test_numbers(self):
        for case in random_cases(253, 100):
            cuts = all_cuts(case)
            self.assertEqual(count_cuts(case), len(cuts))
            self.assertEqual([nth_cut(case, n) for n in range(len(cuts) + 1)], cuts + [None])
            self.assertEqual([number_of(case, cut) for cut in cuts], list(range(len(cuts))))

    def test_possible(self):
        for case in random_cases(254, 100):
            cuts = all_cuts(case)
            self.assertEqual(possible(case), [sorted({cut[k] for cut in cuts}) for k in range(len(case[1]))])

    def test_nothing_is_lower(self):
        for case in random_cases(255, 60, frames=4, places=5):
            # all mended cuts are all loose cuts of a tape that nothing is read of
            loose, mended = all_loose(case), all_loose((case[0], ('?',) * len(case[1]), case[2]))
            strangers = min([tried.count(None) for tried in loose], default=None)
            self.assertEqual(fewest_strangers(case), strangers)
            self.check_shown(shows, find_loose(case), strangers, case, find_values(case))
            costs = [self.price(case, tried) for tried in mended]
            self.assertEqual(least_cost(case, PRICES), min(costs, default=None))
            values = find_mend_values(case, PRICES)
            self.check_shown(lambda *given: shows_mend(given[0], PRICES, *given[1:]), find_mended(case, PRICES),
                             min(costs, default=None), case, values)
            splices = [sum(a[0] != b[0] for a, b in zip(cut, cut[1:])) for cut in all_cuts(case)]
            self.assertEqual(splice_counts(case), sorted(set(splices)))
            self.check_shown(shows_splices, find_cut(case), min(splices, default=None), case, find_splice_values(case))

    def price(self, case, tried):
        misread = sum(pair is not None and frame != '?' and case[0][pair[0]][0][pair[1]] not in frame
                      for pair, frame in zip(tried, case[1]))
        return PRICES[0] * tried.count(None) + PRICES[1] * misread

    def check_shown(self, shows_it, found, least, case, values):
        self.assertEqual(found is None, least is None)
        if least is None:
            self.assertTrue(shows_it(case, values, 10 ** 29))
        else:
            self.assertTrue(shows_it(case, values, least))
            self.assertFalse(shows_it(case, values, least + 1))

    def test_a_desk_accepts_just_what_leaves_a_cut(self):
        chance = random.Random(256)
        counted = {True: 0, False: 0}
        for _ in range(60):
            stock = tuple(random_reel(chance, 3) for _ in range(chance.randint(1, 2)))
            frames = chance.randint(1, 4)
            if not all_cuts((stock, ('?',) * frames, ())):
                self.assertRaises(Refused, Desk, stock, frames)
                continue
            made_desk = Desk(stock, frames)
            for _ in range(8):
                event = random_event(chance, made_desk.case())
                behind = case_behind(made_desk.case(), event)
                accepted = bool(all_cuts(behind))
                counted[accepted] += 1
                if accepted:
                    made(made_desk, event)
                    self.assertTrue(stands(behind, made_desk.cut()))
                else:
                    with self.assertRaises(Refused) as caught:
                        made(made_desk, event)
                    self.assertTrue(is_table(behind, caught.exception.table))
        self.assertGreater(min(counted.values()), 40, counted)

    def test_cases_compared(self):
        for case, other in zip(random_cases(257, 40), random_cases(258, 40)):
            if case[0] and len(case[1]) == len(other[1]):
                changed = (case[0], other[1], ())
                ones, others = set(all_cuts(case)), set(all_cuts(changed))
                self.assertIs(implies(case, changed), ones <= others)
                self.assertIs(same_cuts(case, changed), ones == others)
                only = find_only(case, changed)
                self.assertTrue(only in ones - others if ones - others else only is None)


class Overview(unittest.TestCase):
    """Point [1]: a library, with nothing of its own to run, to read or to write."""

    def test_modules(self):
        for file in INTERFACE:
            module = importlib.import_module('reelsplice.' + file)
            self.assertTrue(module.__doc__)
            self.assertFalse([name for name, value in vars(module).items() if inspect.ismodule(value)])


if __name__ == '__main__':
    unittest.main()
