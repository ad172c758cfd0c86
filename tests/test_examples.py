"""The examples of the document, just as they are written there."""

import unittest

from reelsplice.cases import is_case, is_saying, is_stock, is_tape
from reelsplice.coming import can_end, next_letters
from reelsplice.comparing import find_only, implies, narrowed, same_cuts
from reelsplice.counts import count_cuts, nth_cut, number_of
from reelsplice.cuts import find_cut, is_cut
from reelsplice.desk import Desk
from reelsplice.doubts import find_parted, pairs_at, pairs_shown, verdict
from reelsplice.errors import InvalidEvent, InvalidText
from reelsplice.heads import find_whole, is_dead_table, is_watch, is_whole, lengths, reach
from reelsplice.logs import is_log, replayed
from reelsplice.mends import cost, find_mend_values, find_mended, is_mended, least_cost, shows_mend
from reelsplice.possible import possible, signs_of, sure_frames
from reelsplice.reading import best_frame, merged, sign_counts
from reelsplice.settling import settling
from reelsplice.shares import cut_of_shares, share_counts, shares
from reelsplice.splices import cut_with, find_splice_values, shows_splices, splice_counts, splices
from reelsplice.strangers import fewest_strangers, find_loose, find_values, is_loose, shows
from reelsplice.tables import ends, find_table, first_row, is_table, steps
from reelsplice.texts import read_tape, write_tape
from reelsplice.twins import find_pair_table, find_twins, longest_doubt
from reelsplice.watchers import Watcher
from reelsplice.watchlogs import first_watch_fault, is_watch_log, watch_log

CASE = ((('abc', 0, False), ('bd', 0, False)), ('a', 'b', '?', 'd', 'c'), ())
BACK = ((('bd', 1, False),), ('d', 'b'), ())
STOCK = (('abc', 0, False), ('ab', 0, False))
WATCH = (STOCK, 0, 16)
LONG = ((('ab', 1, False), ('b', 1, False)), 3, 16)
SHORT = ((('aa', 1, False),), 0, 16)
TURNED = ((('abcdba', 0, True),), 0, 16)
MIXED = ((('axyb', 3, False), ('m', 0, False)), 0, 16)

CASES = """
>>> [is_stock(CASE[0]), is_stock((('ab', 3, False),)), is_tape(('ab', '?', '')), is_tape(('ba',)), is_case(BACK)]
[True, False, True, False, True]
>>> [is_saying(5, 2, ('same', 0, 4)), is_saying(5, 2, ('of', 4, 2)), is_saying(5, 2, ('apart', 3, 3))]
[True, False, False]
"""

CUTS = """
>>> [is_cut(CASE, ((0, 0), (0, 1), (1, 0), (1, 1), (0, 2))), is_cut(CASE, ((0, 0), (0, 1), (1, 0), (0, 2), (1, 1))), find_cut(BACK)]
[True, False, None]
>>> [find_cut(((('bd', 0, True),), ('d', 'b'), ())), find_cut(((('bd', 1, False),), ('?',), (('of', 0, 0),))) in [((0, 0),), ((0, 1),)]]
[((0, 1), (0, 0)), True]
"""

TABLES = """
>>> [first_row(BACK), steps(BACK, 0, first_row(BACK)), steps(BACK, 1, (((1, 1, 0),), ()))]
[(((0, -1, 0),), ()), [(0, 1, (((1, 1, 0),), ()))], []]
>>> [is_table(BACK, [[(((0, -1, 0),), ())], [(((1, 1, 0),), ())], []]), is_table(BACK, [[(((0, -1, 0),), ())], [], []]), find_table(CASE)]
[True, False, None]
"""

COUNTS = """
>>> [count_cuts(CASE), nth_cut(CASE, 1), nth_cut(CASE, 2), number_of(CASE, ((0, 0), (0, 1), (1, 0), (1, 1), (0, 2)))]
[2, ((0, 0), (1, 0), (0, 1), (1, 1), (0, 2)), None, 0]
>>> [count_cuts((CASE[0], CASE[1], (('apart', 0, 1),))), count_cuts(BACK), count_cuts(((('ab', 2, False),), (), ()))]
[1, 0, 1]
"""

POSSIBLE = """
>>> [possible(CASE)[1], signs_of(CASE), sure_frames(CASE), possible(BACK), signs_of(BACK), sure_frames(BACK)]
[[(0, 1), (1, 0)], ('a', 'b', 'b', 'd', 'c'), [0, 3, 4], [[], []], ('', ''), []]
"""

STRANGERS = """
>>> [find_loose(((('bd', 0, False),), ('b', 'x', 'd'), ())), fewest_strangers(CASE), fewest_strangers(BACK)]
[((0, 0), None, (0, 1)), 0, 1]
>>> [fewest_strangers(((('bd', 0, False),), ('d', 'b'), ())), is_loose(BACK, (None, (0, 0)))]
[None, True]
"""


MENDS = """
>>> [find_mended(((('bd', 0, False),), ('b', 'x'), ()), (1, 9)), least_cost(((('bd', 0, False),), ('b', 'x'), ()), (1, 9))]
[((0, 0), (0, 1)), 9]
>>> [find_mended(((('bd', 1, False),), ('b', 'x'), ()), (1, 9)), least_cost(BACK, (3, 2)), least_cost(((('bd', 0, False),), (), ()), (1, 1))]
[((0, 0), None), 3, None]
>>> [is_mended(BACK, ((0, 0), (0, 1))), cost(BACK, (3, 2), ((0, 0), (0, 1))), is_mended(BACK, ((0, 1), (0, 0)))]
[True, 4, False]
"""

SPLICES = """
>>> [splices(((0, 0), (0, 1), (1, 0), (1, 1), (0, 2))), splice_counts(CASE), cut_with(CASE, 4), cut_with(CASE, 3)]
[[2, 4], [2, 4], ((0, 0), (1, 0), (0, 1), (1, 1), (0, 2)), None]
"""

SHARES = """
>>> [shares(((0, 0), (0, 1), (1, 0), (1, 1), (0, 2)), 3), share_counts(CASE), share_counts(BACK)]
[(3, 2, 0), {(3, 2): 2}, {}]
>>> [cut_of_shares(((('a', 1, False), ('a', 1, False)), ('a',), ()), (0, 1)), cut_of_shares(CASE, (2, 3))]
[((1, 0),), None]
"""

COMPARING = """
>>> [find_only(CASE, (CASE[0], CASE[1], (('same', 0, 1),))), implies((CASE[0], CASE[1], (('same', 0, 1),)), CASE), same_cuts(CASE, narrowed(CASE))]
[((0, 0), (1, 0), (0, 1), (1, 1), (0, 2)), True, True]
>>> [narrowed(CASE)[1], narrowed(BACK)[1]]
[('a', 'b', 'b', 'd', 'c'), ('', '')]
"""

READING = """
>>> [merged(('?', 'ab', 'c', '?'), ('x', 'bc', 'd', '?')), sign_counts(CASE, 1), best_frame(CASE)]
[('x', 'b', '', '?'), {'b': 2}, None]
>>> [sign_counts(((('ab', 1, False),), ('?',), ()), 0), best_frame(((('ab', 1, False),), ('?',), ()))]
[{'a': 1, 'b': 1}, 0]
"""

TEXTS = """
>>> [write_tape(('a', 'bc', '?', '')), read_tape('[?][ac]'), read_tape('')]
['[a][bc][?][]', ('?', 'ac'), ()]
>>> read_tape('[ba]')
raises InvalidText
"""

DESK = """
>>> desk = Desk((('abc', 0, False), ('bd', 0, False)), 5)
>>> [desk.read(0, 'a'), desk.read(3, 'd'), desk.possible(3), desk.say(('same', 0, 1)), desk.case()[1:]]
[None, None, [(1, 1)], None, (('a', '?', '?', 'd', '?'), (('same', 0, 1),))]
>>> desk = Desk((('ab', 0, False),), 2)
>>> [desk.read(0, 'a'), desk.undo(), desk.undo(), desk.case()[2]]
[None, ('read', 0, 'a'), None, ()]
>>> desk.read(9, 'a')
raises InvalidEvent(('read', 9, 'a'))
"""

LOGS = """
>>> [is_log((('ab', 0, False),), 2, [(('read', 0, 'a'), ((0, 0), (0, 1)))]), is_log((('ab', 0, False),), 2, [(('read', 0, 'b'), ((0, 0), (0, 1)))])]
[True, False]
>>> replayed((('ab', 0, False),), 2, [(('read', 0, 'a'), ((0, 0), (0, 1)))])
((('ab', 0, False),), ('a', '?'), ())
"""

HEADS = """
>>> [is_watch(WATCH), is_watch((STOCK, 3, 2)), is_watch(((('abcdefghij', 9, False),), 0, 16)), reach(STOCK, (((1, 0, 0), (0, -1, 0)), ()))]
[True, False, False, (5, 5)]
>>> [is_whole(WATCH, ('a',), ((0, 0), (0, 1), (1, 0), (1, 1), (0, 2))), is_whole(WATCH, ('a',), ((0, 0),)), find_whole(WATCH, ('b',))]
[True, False, None]
>>> [lengths(WATCH, ('a',)), lengths(SHORT, ()), lengths(LONG, ()), is_dead_table(WATCH, ('b',), [[(((0, -1, 0), (0, -1, 0)), ())], []])]
[[5], [1, 2], [3], True]
"""

COMING = """
>>> [next_letters(WATCH, ('a',)), next_letters(LONG, ('b',)), next_letters(WATCH, ('b',)), can_end(SHORT, ('a',)), can_end(WATCH, ('a', 'b', 'c'))]
['ab', 'a', '', True, False]
"""

DOUBTS = """
>>> [verdict(WATCH, ('a',), 0), verdict(WATCH, ('b',), 0), pairs_at(WATCH, ('a',), 0), pairs_at(WATCH, ('a', 'b', 'c'), 0), pairs_at(LONG, ('b',), 0)]
['doubt', 'dead', [(0, 0), (1, 0)], [(0, 0)], [(1, 0)]]
>>> [verdict(SHORT, ('a',), 0), verdict(SHORT, ('a', '?'), 0), find_parted(SHORT, ('a', '?'), 0), pairs_shown(SHORT, ('a',), 0, [])]
['doubt', 'sure', None, None]
"""

TWINS = """
>>> [longest_doubt(WATCH, ('a',), 0), longest_doubt(TURNED, ('a',), 0), longest_doubt(MIXED, ('abm',), 0), longest_doubt(WATCH, ('a', 'b', 'c'), 0)]
[4, 1, 3, None]
>>> [find_twins(TURNED, ('a',), 0), find_twins(SHORT, ('a',), 0), find_twins(MIXED, ('abm', 'x'), 0), find_pair_table(WATCH, ('a', 'b', 'c'), 0)]
[None, (((0, 0),), ((0, 1),)), None, [[]]]
"""

SETTLING = """
>>> [sorted(settling(WATCH, ('a',), 0).items()), sorted(settling(TURNED, ('a', 'b'), 0).items()), sorted(settling(SHORT, ('a',), 0).items())]
[[('a', False), ('b', False)], [('c', True), ('d', True)], [('', False), ('a', True)]]
"""

WATCHERS = """
>>> watcher = Watcher(STOCK, 0, 16)
>>> [watcher.frame('a'), watcher.frame('b'), watcher.in_doubt(), watcher.frame('c'), watcher.told()[1]]
[[], [], [0, 1], [(0, (0, 0)), (1, (0, 1)), (2, (0, 2))], (0, 1)]
>>> [watcher.undo(), watcher.told(), watcher.frame('a'), watcher.again(2, 'ab'), watcher.head()]
[('frame', 'c'), {}, [], [], ('a', 'b', 'a')]
>>> watcher.again(3, 'a')
raises InvalidEvent(('again', 3, 'a'))
"""

WATCHLOGS = """
>>> watcher = Watcher((('ab', 0, False),), 0, 16)
>>> [watcher.frame('?'), watch_log(watcher)[0][1][0][:2], watch_log(watcher)[0][2], is_watch_log(((('ab', 0, False),), 0, 16), watch_log(watcher))]
[[(0, (0, 0))], (0, (0, 0)), [], True]
>>> [first_watch_fault(SHORT, [(('frame', 'a'), [], [(0, ((0, 0),), ((0, 1),))])]), first_watch_fault(SHORT, [(('frame', 'a'), [], [])])]
[None, 0]
"""


class Examples(unittest.TestCase):

    def check(self, text):
        lines = text.split('\n')
        asked = [k for k, line in enumerate(lines) if line.startswith('>>> ')]
        self.assertTrue(asked)
        names = dict(globals())
        for k in asked:
            if lines[k + 1].startswith('>>> '):
                exec(lines[k][4:], names)
            elif lines[k + 1].startswith('raises '):
                self.check_raises(lines[k][4:], lines[k + 1][7:], names)
            else:
                answer = eval(lines[k][4:], names)
                # by their texts, since True == 1
                self.assertEqual(repr(answer), repr(eval(lines[k + 1])), lines[k])

    def check_raises(self, line, told, names):
        word, _, argument = told.partition('(')
        with self.assertRaises(eval(word)) as caught:
            eval(line, names)
        if argument:
            self.assertEqual(repr(caught.exception.event), repr(eval('(' + argument)))

    def test_cases(self):
        self.check(CASES)

    def test_cuts(self):
        self.check(CUTS)

    def test_tables(self):
        self.check(TABLES)
        self.assertEqual([ends(BACK, (((1, 1, 0),), ())), ends(BACK, first_row(BACK))], [True, False])

    def test_counts(self):
        self.check(COUNTS)

    def test_possible(self):
        self.check(POSSIBLE)

    def test_strangers(self):
        self.check(STRANGERS)
        self.assertEqual([shows(CASE, find_values(CASE), 0), shows(CASE, find_values(CASE), 1)], [True, False])
        self.assertEqual([shows(BACK, find_values(BACK), 1), shows(BACK, find_values(BACK), 2)], [True, False])

    def test_mends(self):
        self.check(MENDS)
        self.assertEqual([shows_mend(BACK, (3, 2), find_mend_values(BACK, (3, 2)), n) for n in (3, 4)], [True, False])

    def test_splices(self):
        self.check(SPLICES)
        self.assertEqual([shows_splices(CASE, find_splice_values(CASE), n) for n in (2, 3)], [True, False])

    def test_shares(self):
        self.check(SHARES)

    def test_comparing(self):
        self.check(COMPARING)

    def test_reading(self):
        self.check(READING)

    def test_texts(self):
        self.check(TEXTS)

    def test_desk(self):
        self.check(DESK)

    def test_logs(self):
        self.check(LOGS)

    def test_heads(self):
        self.check(HEADS)

    def test_coming(self):
        self.check(COMING)

    def test_doubts(self):
        self.check(DOUBTS)

    def test_twins(self):
        self.check(TWINS)

    def test_settling(self):
        self.check(SETTLING)

    def test_watchers(self):
        self.check(WATCHERS)

    def test_watchlogs(self):
        self.check(WATCHLOGS)


if __name__ == '__main__':
    unittest.main()
