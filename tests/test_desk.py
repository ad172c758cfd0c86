"""Stage 14: the desk."""

import copy
import random
import unittest

from reelsplice.cases import is_case, is_saying
from reelsplice.counts import count_cuts
from reelsplice.cuts import is_cut
from reelsplice.desk import Desk
from reelsplice.errors import InvalidEvent, Refused
from reelsplice.possible import possible
from reelsplice.tables import find_table, is_table
from tests.helper import (FREE, FULL, LONG, LOSSY, ODD, OPEN_TAPE, SAYINGS, TURNING, all_cuts, case_behind, made,
                          random_cases, random_event, random_reel)

STOCK = (('abc', 0, False), ('bd', 0, False))
EVENTS = ('read', 'say', 'drop')


def kept(desk):
    """All that a desk tells, as a text."""
    return repr((desk.case(), desk.cut(), [desk.possible(k) for k in range(len(desk.case()[1]))]))


def small_desk(chance):
    """A desk of a small stock, with its stock and number of frames."""
    while True:
        stock = tuple(random_reel(chance, 3) for _ in range(chance.randint(1, 3)))
        frames = chance.randint(1, 5)
        if sum(len(reel[0]) for reel in stock) <= 6 and all_cuts((stock, ('?',) * frames, ())):
            return Desk(stock, frames), stock, frames


class Checked(unittest.TestCase):

    def check_invalid(self, desk, *events):
        for event in events:
            before, given = kept(desk), repr(event)
            with self.assertRaises(InvalidEvent) as caught:
                made(desk, event)
            self.assertIs(type(caught.exception), InvalidEvent)
            self.assertEqual(repr(caught.exception.event), given)
            self.assertEqual((kept(desk), repr(event)), (before, given))

    def check_refused(self, desk, event):
        before, behind = kept(desk), case_behind(desk.case(), event)
        tables = []
        for _ in range(2):
            with self.assertRaises(Refused) as caught:
                made(desk, event)
            self.assertIs(type(caught.exception), Refused)
            table = caught.exception.table
            self.assertTrue(is_table(behind, table), (behind, table))
            self.assertEqual(kept(desk), before)
            tables.append(copy.deepcopy(table))
            # the caller may change it
            for rows in table:
                rows.append('more')
            table.clear()
        self.assertEqual(tables[0], tables[1])
        self.assertEqual(count_cuts(behind), 0)

    def check_accepted(self, desk, event):
        behind = case_behind(desk.case(), event)
        self.assertIsNone(made(desk, event))
        self.check_state(desk, behind)

    def check_state(self, desk, case):
        self.assertEqual(repr(desk.case()), repr(case))
        self.assertTrue(is_cut(case, desk.cut()))
        self.assertGreater(count_cuts(case), 0)
        self.assertEqual([desk.possible(k) for k in range(len(case[1]))], possible(case))


class Begin(Checked):

    def test_the_beginning(self):
        for stock, frames in [(STOCK, 5), (FREE, 1), (FREE, 4), (FULL, 16), (LONG, 16), (TURNING, 15)]:
            desk = Desk(stock, frames)
            self.check_state(desk, (stock, ('?',) * frames, ()))
            self.assertIsNone(desk.undo())
            self.check_state(desk, (stock, ('?',) * frames, ()))

    def test_refused(self):
        for stock, frames in [(STOCK, 4), (STOCK, 6), (STOCK, 1), (FULL, 15), (TURNING, 16), ((('a', 1, True),), 2),
                              ((('abcdefghij', 0, False), ('abcdefg', 0, False)), 16)]:
            tables = []
            for _ in range(2):
                with self.assertRaises(Refused) as caught:
                    Desk(stock, frames)
                table = caught.exception.table
                self.assertTrue(is_table((stock, ('?',) * frames, ()), table))
                tables.append(copy.deepcopy(table))
                table[0].append('more')
                table.pop()
            self.assertEqual(tables[0], tables[1])

    def test_all_numbers_of_frames(self):
        for case in random_cases(141, 40, places=5):
            for frames in range(1, 7):
                if count_cuts((case[0], ('?',) * frames, ())):
                    self.check_state(Desk(case[0], frames), (case[0], ('?',) * frames, ()))
                else:
                    self.assertRaises(Refused, Desk, case[0], frames)


class Drawn(Checked):

    def test_small_desks(self):
        chance = random.Random(142)
        accepted = dict.fromkeys(EVENTS, 0)
        refused = 0
        for _ in range(80):
            desk, stock, frames = small_desk(chance)
            log = []
            for _ in range(chance.randint(1, 12)):
                if chance.random() < 0.15:
                    expected = log.pop() if log else None
                    self.assertEqual(repr(desk.undo()), repr(expected))
                    self.check_state(desk, self.replayed(stock, frames, log))
                    continue
                event = random_event(chance, desk.case())
                if all_cuts(case_behind(desk.case(), event)):
                    self.check_accepted(desk, event)
                    log.append(event)
                    accepted[event[0]] += 1
                else:
                    self.check_refused(desk, event)
                    refused += 1
                self.check_state(desk, self.replayed(stock, frames, log))
            self.check_same_by_log(desk, stock, frames, log)
        self.assertGreater(refused, 50)
        self.assertGreater(min(accepted.values()), 10)

    def replayed(self, stock, frames, log):
        case = (stock, ('?',) * frames, ())
        for event in log:
            case = case_behind(case, event)
        return case

    def check_same_by_log(self, desk, stock, frames, log):
        """A desk's cuts depend on its log alone, not on what was refused or taken back."""
        other = Desk(stock, frames)
        for event in log:
            made(other, event)
        self.assertEqual(kept(other), kept(desk))
        self.assertTrue(desk == other)
        while log:
            self.assertEqual((desk.undo(), other.undo()), (log[-1], log[-1]))
            log.pop()
            self.assertEqual(kept(other), kept(desk))
            self.check_state(desk, self.replayed(stock, frames, log))
        self.assertEqual((desk.undo(), other.undo()), (None, None))

    def test_large_desks(self):
        chance = random.Random(143)
        refused = 0
        for stock, frames in [(FULL, 16), (LOSSY, 16), (LONG, 16), (TURNING, 15)]:
            desk = Desk(stock, frames)
            for _ in range(25):
                event = random_event(chance, desk.case())
                if count_cuts(case_behind(desk.case(), event)):
                    self.check_accepted(desk, event)
                else:
                    refused += 1
                    self.check_refused(desk, event)
        self.assertGreater(refused, 5)


class Refusals(Checked):

    def desk(self):
        desk = Desk(FREE, 5)
        desk.read(1, 'bc')
        desk.say(('apart', 0, 3))
        desk.read(2, 'a')
        return desk

    def test_frames_that_there_are_not(self):
        desk = self.desk()
        ks = [-1, 5, 6, 16, 10 ** 29, -10 ** 29, True, False] + [value for value in ODD if type(value) is not int]
        self.check_invalid(desk, *[('read', k, 'a') for k in ks])
        for k in ks:
            with self.assertRaises(InvalidEvent) as caught:
                desk.possible(k)
            self.assertEqual(repr(caught.exception.event), repr(('possible', k)))

    def test_what_is_no_frame(self):
        frames = ['ba', 'aa', '?a', 'a?', '??', 'A', 'a b', '\u00e9', 'abcb', '[a]', None, True, 0, ('a',), ['a'], {'a': 1}]
        frames += [value for value in ODD if value not in ('', '?', 'a')]
        self.check_invalid(self.desk(), *[('read', 0, frame) for frame in frames])

    def test_what_is_no_saying(self):
        desk = self.desk()
        sayings = [value for value in ODD if not is_saying(5, 3, value)]
        sayings += [('same', 1, 1), ('same', 2, 1), ('same', 0, 5), ('apart', -1, 2), ('of', 0, 3), ('of', 5, 0),
                    ('off', 0, -1), ('off', -1, 0), ('same', 0), ('same', 0, 1, 2), ['same', 0, 1], ('not', 0, 1),
                    ('same', False, 1), ('same', 0, True), ('of', True, 0), ('off', 0, False), ('same', 0, [1]),
                    (['same'], 0, 1), ('same', '0', 1), ({}, [], ()), ('of', 0, None), (None, 0, 1), ('SAME', 0, 1)]
        self.check_invalid(desk, *[('say', saying) for saying in sayings])

    def test_a_fifth_saying(self):
        desk = Desk(FREE, 5)
        for saying in SAYINGS:
            self.check_accepted(desk, ('say', saying))
        self.check_invalid(desk, ('say', ('same', 0, 3)), ('say', SAYINGS[0]), ('say', ('of', 0, 0)), ('say', None))
        self.check_accepted(desk, ('drop', 1))
        self.check_accepted(desk, ('say', SAYINGS[1]))
        self.check_invalid(desk, ('say', SAYINGS[1]))

    def test_the_same_saying_again(self):
        desk = Desk(FREE, 5)
        for _ in range(4):
            self.check_accepted(desk, ('say', ('same', 0, 1)))
        self.check_invalid(desk, ('say', ('same', 0, 1)))

    def test_sayings_that_there_are_not(self):
        desk = Desk(FREE, 5)
        self.check_invalid(desk, *[('drop', i) for i in [-1, 0, 1, True, False, None, 10 ** 29]])
        desk.say(SAYINGS[0])
        desk.say(SAYINGS[1])
        self.check_invalid(desk, *[('drop', i) for i in [-1, -2, 2, 3, 10 ** 29, True, False]])
        self.check_invalid(desk, *[('drop', value) for value in ODD if type(value) is not int or not 0 <= value < 2])

    def test_the_error_listed_first(self):
        # behind these events there would be no cut, but they are no events
        desk = Desk((('ab', 0, False),), 2)
        self.check_refused(desk, ('read', 0, 'z'))
        self.check_refused(desk, ('say', ('apart', 0, 1)))
        self.check_invalid(desk, ('read', 2, 'z'), ('read', 0, 'zz'), ('read', 0, 'zy'), ('read', False, 'z'))
        self.check_invalid(desk, ('say', ('apart', 1, 0)), ('say', ('apart', 0, True)))
        for _ in range(4):
            desk.say(('same', 0, 1))
        self.check_invalid(desk, ('say', ('apart', 0, 1)), ('say', ('off', 0, 0)))

    def test_an_empty_frame(self):
        desk = Desk(FREE, 3)
        self.check_refused(desk, ('read', 1, ''))
        self.check_accepted(desk, ('read', 1, 'ab'))
        self.check_refused(desk, ('read', 1, 'c'))
        self.check_refused(desk, ('read', 1, ''))
        self.check_accepted(desk, ('read', 1, '?'))
        self.check_accepted(desk, ('read', 1, 'bcz'))
        self.assertEqual(desk.case()[1], ('?', 'b', '?'))

    def test_errors_hold_copies(self):
        desk = self.desk()
        for call, value in [(desk.say, [['same'], {'a': [0]}]), (desk.drop, [[1]]), (desk.possible, {'a': [1]})]:
            given = copy.deepcopy(value)
            with self.assertRaises(InvalidEvent) as caught:
                call(value)
            part = caught.exception.event[1]
            self.assertEqual(part, given)
            if isinstance(value, list):
                value.append('more')
                value[0].append('more')
            else:
                value['a'].append('more')
            self.assertEqual(caught.exception.event[1], given)
        k, frame = [0], ['a']
        with self.assertRaises(InvalidEvent) as caught:
            desk.read(k, frame)
        k.append(1)
        frame.clear()
        self.assertEqual(caught.exception.event, ('read', [0], ['a']))


class Dropped(Checked):

    def test_each_saying(self):
        for i in range(4):
            desk = Desk(FREE, 5)
            for saying in SAYINGS:
                desk.say(saying)
            self.check_accepted(desk, ('drop', i))
            self.assertEqual(desk.case()[2], tuple(SAYINGS[:i] + SAYINGS[i + 1:]))
            self.check_accepted(desk, ('drop', 0))
            self.assertEqual(desk.case()[2], tuple((SAYINGS[:i] + SAYINGS[i + 1:])[1:]))
            self.assertEqual(desk.undo(), ('drop', 0))
            self.assertEqual(desk.undo(), ('drop', i))
            self.assertEqual(desk.case()[2], tuple(SAYINGS))
            self.assertEqual(desk.undo(), ('say', SAYINGS[3]))

    def test_what_was_refused_may_be_said_behind_it(self):
        desk = Desk((('ab', 2, False), ('ab', 2, False)), 2)
        desk.say(('same', 0, 1))
        self.check_refused(desk, ('say', ('apart', 0, 1)))
        self.check_accepted(desk, ('drop', 0))
        self.check_accepted(desk, ('say', ('apart', 0, 1)))
        self.check_refused(desk, ('say', ('same', 0, 1)))


class Undone(Checked):

    def test_down_to_the_beginning(self):
        desk = Desk(FREE, 5)
        events = [('read', 0, 'abc'), ('say', SAYINGS[0]), ('read', 0, 'ab'), ('say', SAYINGS[1]), ('drop', 0),
                  ('read', 4, 'ac'), ('drop', 0)]
        states = [kept(desk)]
        for event in events:
            self.check_accepted(desk, event)
            states.append(kept(desk))
        for k in reversed(range(len(events))):
            self.assertEqual(repr(desk.undo()), repr(events[k]))
            self.assertEqual(kept(desk), states[k])
        for _ in range(3):
            self.assertIsNone(desk.undo())
            self.assertEqual(kept(desk), states[0])
        for k, event in enumerate(events):
            self.check_accepted(desk, event)
            self.assertEqual(kept(desk), states[k + 1])

    def test_behind_a_refusal(self):
        for event in [('read', 0, 'a'), ('say', ('same', 0, 1))]:
            desk = Desk((('ab', 0, False),), 2)
            begun = kept(desk)
            self.check_accepted(desk, event)
            self.check_refused(desk, ('read', 1, 'a'))
            self.assertEqual(repr(desk.undo()), repr(event))
            self.assertEqual(kept(desk), begun)
            self.check_refused(desk, ('read', 1, 'a'))
            self.assertIsNone(desk.undo())
            self.check_invalid(desk, ('read', 9, 'a'))
            self.assertIsNone(desk.undo())
            self.assertEqual(kept(desk), begun)

    def test_a_reading_that_changed_nothing(self):
        desk = Desk(STOCK, 5)
        begun = kept(desk)
        self.check_accepted(desk, ('read', 2, '?'))
        self.assertEqual(kept(desk), begun)
        self.assertEqual(desk.undo(), ('read', 2, '?'))
        self.assertIsNone(desk.undo())


class Compared(Checked):

    def equal(self, one, other):
        return [one == other, other == one, not one != other, not other != one]

    def desk(self, *events, stock=FREE, frames=5):
        desk = Desk(stock, frames)
        for event in events:
            made(desk, event)
        return desk

    def test_equal_logs(self):
        events = [('read', 0, 'abc'), ('say', SAYINGS[0]), ('drop', 0)]
        for n in range(4):
            one, other = self.desk(*events[:n]), self.desk(*events[:n])
            self.assertEqual(self.equal(one, other), [True] * 4)
            self.assertEqual(self.equal(one, one), [True] * 4)
            for m in range(n):
                self.assertEqual(self.equal(one, self.desk(*events[:m])), [False] * 4)
        one = self.desk(*events)
        one.undo()
        self.assertEqual(self.equal(one, self.desk(*events[:2])), [True] * 4)
        self.assertRaises(Refused, one.read, 0, 'z')
        self.assertRaises(InvalidEvent, one.read, 0, 'zz')
        self.assertEqual(self.equal(one, self.desk(*events[:2])), [True] * 4)

    def test_one_part_changed(self):
        one = self.desk(('read', 0, 'ab'), ('say', ('same', 0, 1)))
        for events in [(('read', 0, 'abc'), ('say', ('same', 0, 1))), (('read', 1, 'ab'), ('say', ('same', 0, 1))),
                       (('read', 0, 'ab'), ('say', ('same', 0, 2))), (('read', 0, 'ab'), ('say', ('apart', 0, 1))),
                       (('say', ('same', 0, 1)), ('read', 0, 'ab')), (('read', 0, 'ab'),), (),
                       (('read', 0, 'ab'), ('say', ('same', 0, 1)), ('read', 0, '?'))]:
            self.assertEqual(self.equal(one, self.desk(*events)), [False] * 4)

    def test_equal_cases_of_other_logs(self):
        self.assertEqual(self.equal(self.desk(('read', 0, '?')), self.desk()), [False] * 4)
        self.assertEqual(self.equal(self.desk(('read', 0, 'a'), ('read', 1, 'b')),
                                    self.desk(('read', 1, 'b'), ('read', 0, 'a'))), [False] * 4)
        self.assertEqual(self.equal(self.desk(('say', SAYINGS[0]), ('drop', 0)), self.desk()), [False] * 4)

    def test_other_beginnings(self):
        for stock, frames in [(FREE, 4), (FREE[::-1], 5), (FREE[:2], 5), ((('abc', 3, True),) + FREE[1:], 5),
                              ((('abd', 3, False),) + FREE[1:], 5), ((('abc', 2, False),) + FREE[1:], 5)]:
            self.assertEqual(self.equal(self.desk(), self.desk(stock=stock, frames=frames)), [False] * 4)

    def test_no_desk_at_all(self):
        desk = self.desk()
        for value in ODD + [desk.case(), desk.cut(), Desk, object()]:
            self.assertEqual(self.equal(desk, value), [False] * 4)


class Copies(Checked):

    def test_what_was_told(self):
        desk = Desk(STOCK, 5)
        desk.read(0, 'a')
        before = kept(desk)
        for k in range(5):
            pairs = desk.possible(k)
            pairs.append('more')
            pairs[0] = None
            self.assertEqual(kept(desk), before)
        self.assertTrue(is_case(desk.case()))
        self.assertIs(type(desk.cut()), tuple)

    def test_what_was_given(self):
        stock = [tuple(reel) for reel in FREE]
        desk = Desk(tuple(stock), 5)
        stock.clear()
        saying = ['same', 0, 1]
        desk.say(tuple(saying))
        saying[2] = 4
        self.check_state(desk, (FREE, ('?',) * 5, (('same', 0, 1),)))
        self.assertEqual(desk.undo(), ('say', ('same', 0, 1)))

    def test_desks_have_nothing_in_common(self):
        one, other = Desk(STOCK, 5), Desk(STOCK, 5)
        begun = kept(other)
        one.read(0, 'a')
        one.say(('same', 0, 1))
        self.assertEqual(kept(other), begun)
        other.read(4, 'd')
        self.assertEqual(one.case(), (STOCK, ('a', '?', '?', '?', '?'), (('same', 0, 1),)))

    def test_tables_of_a_large_desk(self):
        desk = Desk(FULL, 16)
        self.check_refused(desk, ('read', 15, 'a'))
        desk.say(('same', 0, 9))
        self.check_refused(desk, ('read', 15, 'ab'))
        self.assertEqual(desk.case(), (FULL, OPEN_TAPE, (('same', 0, 9),)))
        self.assertIsNone(find_table(desk.case()))


if __name__ == '__main__':
    unittest.main()
