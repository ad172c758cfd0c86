"""Stage 15: logs of desks."""

import copy
import random
import unittest

from reelsplice.counts import nth_cut
from reelsplice.cuts import is_cut
from reelsplice.desk import Desk
from reelsplice.errors import InvalidEvent, Refused
from reelsplice.logs import is_log, log, replayed
from tests.helper import (FREE, FULL, ODD, SAYINGS, all_cuts, case_behind, is_frame_by_words, made, parts_changed,
                          random_event, random_reel, stands, with_part)


def is_saying_by_words(frames, reels, value):
    if type(value) is not tuple or len(value) != 3 or type(value[0]) is not str:
        return False
    word, j, other = value
    if type(j) is not int or type(other) is not int or not 0 <= j < frames:
        return False
    return word in ('same', 'apart') and j < other < frames or word in ('of', 'off') and 0 <= other < reels


def is_event_by_words(case, value):
    stock, tape, sayings = case
    if type(value) is not tuple or not value or type(value[0]) is not str:
        return False
    word, *rest = value
    if word == 'read' and len(rest) == 2:
        return type(rest[0]) is int and 0 <= rest[0] < len(tape) and is_frame_by_words(rest[1])
    if word == 'say' and len(rest) == 1:
        return is_saying_by_words(len(tape), len(stock), rest[0]) and len(sayings) < 4
    return word == 'drop' and len(rest) == 1 and type(rest[0]) is int and 0 <= rest[0] < len(sayings)


def is_cut_by_words(case, value):
    if type(value) is not tuple or len(value) != len(case[1]):
        return False
    for pair in value:
        if type(pair) is not tuple or [type(part) for part in pair] != [int, int]:
            return False
        if not 0 <= pair[0] < len(case[0]) or not 0 <= pair[1] < len(case[0][pair[0]][0]):
            return False
    return stands(case, value)


def is_log_by_words(stock, frames, value):
    if type(value) is not list:
        return False
    case = (stock, ('?',) * frames, ())
    for entry in value:
        if type(entry) is not tuple or len(entry) != 2 or not is_event_by_words(case, entry[0]):
            return False
        case = case_behind(case, entry[0])
        if not is_cut_by_words(case, entry[1]):
            return False
    return True


class Checked(unittest.TestCase):

    def check(self, expected, stock, frames, *values):
        for value in values:
            before = repr(value)
            self.assertIs(is_log(stock, frames, value), expected, (stock, frames, value))
            self.assertEqual(repr(value), before)

    def check_by_words(self, stock, frames, *values):
        """Checks values, and returns how many of them are no logs and how many are."""
        counted = [0, 0]
        for value in values:
            expected = is_log_by_words(stock, frames, value)
            counted[expected] += 1
            self.check(expected, stock, frames, value)
        return counted

    def check_entries(self, seed, others, fewest):
        """Checks logs with one entry replaced by others, of which at least so many are right and so many are not."""
        chance = random.Random(seed)
        counted = [0, 0]
        for stock, frames, desk in self.small_logs(seed + 1000, 80):
            told = log(desk)
            for i, entry in enumerate(told):
                values = [with_part(told, i, other) for other in others(chance, replayed(stock, frames, told[:i]), entry)]
                for value, many in enumerate(self.check_by_words(stock, frames, *values)):
                    counted[value] += many
        self.assertGreater(min(counted), fewest, counted)

    def small_logs(self, seed, many):
        """Stocks, numbers of frames and logs of desks with accepted, refused and undone events."""
        chance = random.Random(seed)
        found = []
        while len(found) < many:
            stock = tuple(random_reel(chance, 3) for _ in range(chance.randint(1, 3)))
            frames = chance.randint(1, 4)
            if sum(len(reel[0]) for reel in stock) > 6 or not all_cuts((stock, ('?',) * frames, ())):
                continue
            desk = Desk(stock, frames)
            events, cuts = [], []
            for _ in range(chance.randint(0, 9)):
                if chance.random() < 0.2:
                    self.assertEqual(desk.undo(), events.pop() if events else None)
                    cuts = cuts[:len(events)]
                    continue
                event = random_event(chance, desk.case())
                try:
                    made(desk, event)
                except Refused:
                    continue
                events.append(event)
                cuts.append(desk.cut())
            self.assertEqual(log(desk), list(zip(events, cuts)))
            found.append((stock, frames, desk))
        return found


class Logs(Checked):

    def test_of_desks(self):
        longest = 0
        for stock, frames, desk in self.small_logs(191, 120):
            told = log(desk)
            longest = max(longest, len(told))
            self.check(True, stock, frames, told)
            self.assertTrue(is_log_by_words(stock, frames, told))
            self.assertEqual(repr(replayed(stock, frames, told)), repr(desk.case()))
            for n in range(len(told) + 1):
                self.check(True, stock, frames, told[:n])
                case = (stock, ('?',) * frames, ())
                for event, _ in told[:n]:
                    case = case_behind(case, event)
                self.assertEqual(repr(replayed(stock, frames, told[:n])), repr(case))
            while desk.undo() is not None:
                told.pop()
                self.assertEqual(log(desk), told)
                self.assertEqual(replayed(stock, frames, told), desk.case())
            self.assertEqual(log(desk), [])
        self.assertGreater(longest, 5)

    def test_the_empty_list(self):
        for stock, frames in [(FREE, 5), (FULL, 16), ((('ab', 0, False),), 1), ((('ab', 0, False),), 16)]:
            self.check(True, stock, frames, [])
            self.check(False, stock, frames, (), {}, None, '', [()], [[]], 0, False)
            self.assertEqual(replayed(stock, frames, []), (stock, ('?',) * frames, ()))

    def test_refused_and_undone_events_do_not_stand_there(self):
        desk = Desk((('ab', 0, False),), 2)
        desk.read(0, 'a')
        self.assertRaises(Refused, desk.read, 1, 'a')
        self.assertRaises(InvalidEvent, desk.read, 2, 'a')
        desk.say(('same', 0, 1))
        desk.undo()
        self.assertRaises(Refused, desk.say, ('apart', 0, 1))
        self.assertEqual(log(desk), [(('read', 0, 'a'), ((0, 0), (0, 1)))])
        desk.say(('of', 1, 0))
        desk.drop(0)
        cut = ((0, 0), (0, 1))
        self.assertEqual(log(desk), [(('read', 0, 'a'), cut), (('say', ('of', 1, 0)), cut), (('drop', 0), cut)])

    def test_results_are_new(self):
        desk = Desk(FREE, 5)
        desk.read(0, 'a')
        desk.say(SAYINGS[0])
        told = log(desk)
        kept = copy.deepcopy(told)
        told.pop()
        told.append('more')
        self.assertEqual(log(desk), kept)
        self.assertEqual(desk.undo(), ('say', SAYINGS[0]))
        self.assertEqual(replayed(FREE, 5, kept)[2], (SAYINGS[0],))

    def test_a_log_changed_in_place(self):
        desk = Desk(FREE, 3)
        for event in [('read', 0, 'ab'), ('say', ('same', 0, 1)), ('read', 2, 'bc')]:
            made(desk, event)
        told = log(desk)
        self.check(True, FREE, 3, told)
        told[1] = (told[1][0], ((0, 0), (1, 0), (0, 1)))
        self.check(False, FREE, 3, told)
        told[1] = log(desk)[1]
        self.check(True, FREE, 3, told)
        told.append(told[0])
        self.check_by_words(FREE, 3, told)
        del told[3]
        told.insert(1, (('drop', 0), told[0][1]))
        self.check(False, FREE, 3, told)
        del told[1]
        self.check(True, FREE, 3, told)

    def test_logs_of_thousands_of_entries(self):
        case = (FREE, ('?',) * 5, ())
        entries = []
        chance = random.Random(192)
        cut = ((0, 0), (1, 0), (2, 0), (0, 1), (0, 2))
        self.assertTrue(is_cut(case, cut))
        for _ in range(1500):
            saying = chance.choice([('apart', 0, 1), ('off', 1, 0), ('same', 0, 3), ('of', 2, 2)])
            entries += [(('say', saying), cut), (('read', chance.randrange(5), '?'), cut), (('drop', 0), cut)]
        self.check(True, FREE, 5, entries)
        self.assertEqual(replayed(FREE, 5, entries), case)
        self.check(False, FREE, 5, entries + [entries[-1]])
        self.check(False, FREE, 5, entries[1:])
        self.check(False, FREE, 5, entries[:2000] + [(entries[2000][0], None)] + entries[2001:])
        desk = Desk(FREE, 3)
        for n in range(1000):
            made(desk, ('read', n % 3, 'abc'))
        self.assertEqual([event for event, _ in log(desk)], [('read', n % 3, 'abc') for n in range(1000)])
        self.check(True, FREE, 3, log(desk))


class NoLogs(Checked):

    def test_entries_left_out_twice_or_exchanged(self):
        counted = [0, 0]
        for stock, frames, desk in self.small_logs(193, 80):
            told = log(desk)
            values = []
            for i, entry in enumerate(told):
                rest = told[:i] + told[i + 1:]
                values += [rest, told[:i] + [entry] + told[i:], told + [entry], [entry] + told]
                values += [rest[:k] + [entry] + rest[k:] for k in range(len(told))]
            for value, many in enumerate(self.check_by_words(stock, frames, *values)):
                counted[value] += many
        self.assertGreater(min(counted), 100, counted)

    def test_parts_changed(self):
        refused = 0
        for stock, frames, desk in self.small_logs(194, 40):
            told = log(desk)[:4]
            for i, entry in enumerate(told):
                values = [with_part(told, i, changed) for changed in parts_changed(entry)]
                refused += self.check_by_words(stock, frames, *values)[False]
            self.check_by_words(stock, frames, *parts_changed(told))
        self.assertGreater(refused, 2000)

    def test_other_cuts(self):
        def others(chance, before, entry):
            stock, tape, _ = before
            cuts = [nth_cut(before, n) for n in range(4)] + [nth_cut((stock, ('?',) * len(tape), ()), chance.randrange(9))]
            return [(entry[0], cut) for cut in cuts]
        self.check_entries(195, others, 60)

    def test_other_events(self):
        def others(chance, before, entry):
            events = [random_event(chance, before) for _ in range(4)] + [('drop', k) for k in range(-1, 5)]
            events += [('read', len(before[1]), 'a'), ('read', -1, 'a'), ('read', 0, 'ba')]
            return [(event, entry[1]) for event in events]
        self.check_entries(197, others, 150)

    def test_a_fifth_saying(self):
        desk = Desk(FREE, 5)
        for saying in SAYINGS:
            desk.say(saying)
        told, cut = log(desk), desk.cut()
        self.check(True, FREE, 5, told)
        for saying in SAYINGS + [('of', 3, 1), ('same', 0, 1)]:
            self.check(False, FREE, 5, told + [(('say', saying), cut)])
        self.check(True, FREE, 5, told + [(('drop', 3), cut), (('say', SAYINGS[3]), cut)])
        self.check(False, FREE, 5, told + [(('drop', 4), cut)])

    def test_another_stock_or_number_of_frames(self):
        accepted = 0
        logs = self.small_logs(199, 80)
        for (stock, frames, desk), (other, more, _) in zip(logs, logs[1:]):
            told = log(desk)
            for further in [(other, frames), (stock, more), (other, more), (stock, frames + 1), (stock[::-1], frames)]:
                accepted += self.check_by_words(*further, told)[True]
        self.assertGreater(accepted, 10)

    def test_other_values(self):
        cut = ((0, 0), (0, 1))
        stock = (('ab', 0, False),)
        good = [(('read', 0, 'a'), cut)]
        self.check(True, stock, 2, good)
        self.check(False, stock, 2, *[value for value in ODD if value != [] or type(value) is not list])
        for value in ODD:
            self.check(False, stock, 2, [value], good + [value], [(value, cut)], [(good[0][0], value)],
                       [(('read', value, 'a'), cut)] if value != 0 or type(value) is bool else None,
                       [(('read', 0, value), cut)] if value not in ('a', '?') else None,
                       [(('say', value), cut)] if value != ('same', 0, 1) else None, [(('drop', value), cut)],
                       [((value, 0, 'a'), cut)], [((value,), cut)], [(value,) + good[0]], [good[0] + (value,)],
                       [(('read', 0, 'a', value), cut)], [(('say', ('same', 0, value)), cut)] if value != 1 else None,
                       [(('say', ('of', 0, value)), cut)] if value != 0 or type(value) is bool else None,
                       [(('say', (value, 0, 0)), cut)], [(('read', 0, 'a'), (value, (0, 1)))] if value != (0, 0) else None)

    def test_truths(self):
        cut, stock = ((0, 0), (0, 1)), (('ab', 0, False),)
        self.check(False, stock, 2, [(('read', False, 'a'), cut)], [(('read', True, 'b'), cut)],
                   [(('read', 0, 'a'), ((False, 0), (0, 1)))], [(('read', 0, 'a'), ((0, 0), (0, True)))],
                   [(('say', ('same', False, 1)), cut)], [(('say', ('same', 0, True)), cut)],
                   [(('say', ('same', 0, 1)), cut), (('drop', False), cut)])
        self.check(True, stock, 2, [(('say', ('same', 0, 1)), cut), (('drop', 0), cut)])


if __name__ == '__main__':
    unittest.main()
