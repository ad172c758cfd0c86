"""Stage 22: logs of watchers."""

import copy
import random
import unittest

from reelsplice.doubts import find_marked, find_parted, pairs_shown
from reelsplice.errors import InvalidEvent, Refused
from reelsplice.heads import find_whole, is_whole
from reelsplice.watchers import Watcher
from reelsplice.watchlogs import first_watch_fault, is_watch_log, resumed_watcher, watch_log
from tests.helper import (MIXED, ODD, SHORT, SIXTEEN, TURNED, WATCH, all_whole, is_frame_by_words, lists_disturbed, made,
                          parts_changed, random_scene_event, random_watch, scene_behind, signs_along, sure_by_trying,
                          with_part)

FREE = (('abc', 3, False), ('ab', 2, True))
STOCK = WATCH[0]


def is_event_by_words(scene, value):
    (_, least, most), head, ended = scene
    if type(value) is not tuple or not value or type(value[0]) is not str:
        return False
    word, *rest = value
    if word == 'frame' and len(rest) == 1:
        return is_frame_by_words(rest[0]) and not ended and len(head) < 16
    if word == 'again' and len(rest) == 2:
        return type(rest[0]) is int and 0 <= rest[0] < len(head) and is_frame_by_words(rest[1])
    return word == 'end' and not rest and not ended and least <= len(head) <= most


def is_entry_by_words(scene, told, value):
    """Whether a value is an entry in a scene, with the frames that are told before."""
    if type(value) is not tuple or len(value) != 3 or not is_event_by_words(scene, value[0]):
        return False
    watch, head, _ = scene_behind(scene, value[0])
    sure = sure_by_trying(watch, head)
    news, doubts = value[1:]
    if sure is None or type(news) is not list or type(doubts) is not list:
        return False
    n = len(head)
    for part in news:
        if type(part) is not tuple or len(part) != 4 or type(part[0]) is not int or not 0 <= part[0] < n:
            return False
        k, pair, table, cut = part
        if repr(pair) != repr(sure.get(k)) or repr(pairs_shown(watch, head, k, table)) != repr([pair]):
            return False
        if not is_whole(watch, head, cut):
            return False
    for part in doubts:
        if type(part) is not tuple or len(part) != 3 or type(part[0]) is not int or not 0 <= part[0] < n:
            return False
        k, one, other = part
        if not is_whole(watch, head, one) or not is_whole(watch, head, other) or one >= other or one[k] == other[k]:
            return False
    return ([part[0] for part in news] == [k for k in range(n) if k in sure and k not in told]
            and [part[0] for part in doubts] == [k for k in range(n) if k not in sure])


def first_fault_by_words(watch, value):
    scene, told = (watch, (), False), set()
    for i, entry in enumerate(value):
        if not is_entry_by_words(scene, told, entry):
            return i
        scene = scene_behind(scene, entry[0])
        told |= {part[0] for part in entry[1]}
    return None


def watcher_of(watch, *events):
    watcher = Watcher(*watch)
    for event in events:
        made(watcher, event)
    return watcher


def log_of(watch, *events):
    return watch_log(watcher_of(watch, *events))


def small_watchers(seed, many, most=8):
    """Watches and watchers, with events of all kinds, some of them refused or taken back."""
    chance = random.Random(seed)
    found = []
    while len(found) < many:
        watch = random_watch(chance)
        if not all_whole(watch, ()):
            continue
        watcher = Watcher(*watch)
        for _ in range(chance.randint(0, most)):
            event = random_scene_event(chance, (watcher.watch(), watcher.head(), watcher.has_ended()))
            if event is None or chance.random() < 0.1:
                watcher.undo()
                continue
            try:
                made(watcher, event)
            except Refused:
                continue
        found.append((watch, watcher))
    return found


class Checked(unittest.TestCase):

    def check(self, expected, watch, *values):
        for value in values:
            before = repr(value)
            self.assertEqual(repr(first_watch_fault(watch, value)), repr(expected), (watch, value))
            self.assertIs(is_watch_log(watch, value), expected is None)
            self.assertEqual(repr(value), before)

    def check_by_words(self, watch, *values):
        """Checks values, and returns how many of them are logs and how many are not."""
        counted = {True: 0, False: 0}
        for value in values:
            expected = first_fault_by_words(watch, value)
            counted[expected is None] += 1
            self.check(expected, watch, value)
        return counted


class Logs(Checked):

    def test_of_watchers(self):
        words = {}
        news = doubts = 0
        for watch, watcher in small_watchers(231, 350):
            told = watch_log(watcher)
            self.assertEqual(told, watch_log(watcher))
            self.check(None, watch, told)
            self.assertIsNone(first_fault_by_words(watch, told))
            for event, new, open_frames in told:
                words[event[0]] = words.get(event[0], 0) + 1
                news += len(new)
                doubts += len(open_frames)
            resumed = resumed_watcher(watch, told)
            self.check_same(resumed, watcher)
            self.check_each(watch, told)
            while watcher.undo() is not None:
                told.pop()
                self.assertEqual(watch_log(watcher), told)
                self.check(None, watch, told)
                self.check_same(resumed_watcher(watch, told), watcher)
            self.assertEqual(watch_log(watcher), [])
        self.assertTrue(min(words.values()) > 20 and news > 150 and doubts > 150, (words, news, doubts))

    def check_same(self, resumed, watcher):
        self.assertIs(type(resumed), Watcher)
        self.assertTrue(resumed == watcher)
        for one, other in [(resumed.head(), watcher.head()), (resumed.told(), watcher.told()),
                           (resumed.watch(), watcher.watch()), (resumed.has_ended(), watcher.has_ended()),
                           (resumed.in_doubt(), watcher.in_doubt())]:
            self.assertEqual(repr(one), repr(other))

    def check_each(self, watch, told):
        """The events and news of a log are those of a watcher with the same events."""
        watcher = Watcher(*watch)
        for event, new, open_frames in told:
            self.assertEqual(made(watcher, event), [part[:2] for part in new])
            self.assertEqual([part[0] for part in open_frames], watcher.in_doubt())

    def test_refused_and_undone_events_do_not_stand_there(self):
        watcher = watcher_of((STOCK, 0, 16), ('frame', 'a'), ('frame', 'b'), ('frame', 'c'))
        watcher.undo()
        self.assertRaises(Refused, watcher.frame, 'x')
        self.assertRaises(InvalidEvent, watcher.frame, 'xx')
        watcher.frame('a')
        self.assertEqual([entry[0] for entry in watch_log(watcher)], [('frame', 'a'), ('frame', 'b'), ('frame', 'a')])
        self.check(None, WATCH, watch_log(watcher))

    def test_the_empty_list(self):
        for watch in (WATCH, SHORT, TURNED, SIXTEEN, (FREE, 0, 0)):
            self.assertEqual(watch_log(Watcher(*watch)), [])
            self.check(None, watch, [])
            self.assertTrue(resumed_watcher(watch, []) == Watcher(*watch))
            for value in [(), {}, None, '', 0, False]:
                self.assertIs(is_watch_log(watch, value), False)

    def test_empty_heads(self):
        for watch in [(FREE, 0, 16), (FREE, 0, 0), ((('ab', 2, True),), 0, 5)]:
            told = log_of(watch, ('end',))
            self.assertEqual(told, [(('end',), [], [])])
            self.check(None, watch, told)
            self.check(1, watch, told + told, told + [(('frame', '?'), [], [])], told + [(('again', 0, '?'), [], [])])
            whole = find_whole(watch, ())
            self.check(0, watch, [(('end',), [(0, (0, 0), [], whole)], [])], [(('end',), [], [(0, whole, whole)])],
                       [(('end',), (), [])], [(('end',), [], ())], [(('end',), None, [])], [(('end',), [], None)],
                       [(('end', 0), [], [])], [(['end'], [], [])], [('end', [], [])])
        # by reach alone: no frame is too few for these reels, or none is from least to most
        self.check(0, WATCH, [(('end',), [], [])])
        self.check(0, SHORT, [(('end',), [], [])])
        self.check(0, (FREE, 1, 16), [(('end',), [], [])])

    def test_a_dead_head_of_frames_that_are_all_told(self):
        watch = ((('ab', 0, False),), 0, 16)
        told = log_of(watch, ('frame', 'a'), ('frame', 'b'))
        again = (('again', 0, 'ax'), [], [])
        self.check(None, watch, told, told + [again], told + [again, (('end',), [], [])])
        self.check(2, watch, told + [(('again', 0, 'b'), [], [])], told + [(('again', 1, ''), [], []), again])
        self.check(1, watch, told[:1] + [(('end',), [], [])])

    def test_behind_the_end(self):
        told = log_of((FREE, 0, 16), ('frame', '?'), ('frame', 'ab'), ('end',), ('again', 0, 'c'), ('again', 1, 'a'))
        watch = (FREE, 0, 16)
        self.check(None, watch, told)
        for entry in told[:2]:
            self.check(5, watch, told + [entry])
        self.check(3, watch, told[:3] + told[2:], told[:3] + [(('frame', '?'), told[1][1], told[1][2])])

    def test_sixteen_frames(self):
        chance = random.Random(232)
        signs = signs_along(SIXTEEN[0], chance.choice(all_whole(SIXTEEN, ())))
        events = [('frame', chance.choice(['?', sign])) for sign in signs] + [('again', 3, signs[3]), ('end',)]
        told = log_of(SIXTEEN, *events)
        self.check(None, SIXTEEN, told)
        self.assertTrue(resumed_watcher(SIXTEEN, told) == watcher_of(SIXTEEN, *events))
        self.check(18, SIXTEEN, told + [told[-1]])
        self.check(16, SIXTEEN, told[:16] + told[15:])

    def test_results_are_new(self):
        watcher = watcher_of((STOCK, 0, 16), ('frame', 'a'), ('frame', 'b'), ('frame', 'c'))
        told = watch_log(watcher)
        kept = copy.deepcopy(told)
        told[2][1][0][2][0].append('more')
        told[2][1][1][2].clear()
        told[2][1].append('more')
        told[0][2].clear()
        told.pop(1)
        self.assertEqual(watch_log(watcher), kept)
        self.check(None, WATCH, kept)
        given = repr(kept)
        resumed = resumed_watcher(WATCH, kept)
        resumed.undo()
        self.assertEqual(repr(kept), given)

    def test_another_log_of_the_same_events(self):
        # other tables and other cuts are right, too, as long as they show the same
        watch, head = (FREE, 0, 16), ('c',)
        (event, news, doubts), = log_of(watch, ('frame', 'c'))
        self.assertEqual([part[:2] for part in news], [(0, (0, 2))])
        for cut in all_whole(watch, head):
            for part in (news[0][2][::1], [rows[::-1] for rows in news[0][2]]):
                self.check(None, watch, [(event, [(0, (0, 2), part, cut)], doubts)])
        event, news, doubts = log_of(watch, ('frame', 'a'))[0]
        for one in all_whole(watch, ('a',)):
            for other in all_whole(watch, ('a',)):
                right = one < other and one[0] != other[0]
                self.check(None if right else 0, watch, [(event, [], [(0, one, other)])])


class Faults(Checked):

    def test_entries_left_out_twice_or_exchanged(self):
        counted = {True: 0, False: 0}
        for watch, watcher in small_watchers(233, 80):
            told = watch_log(watcher)
            values = []
            for i, entry in enumerate(told):
                rest = told[:i] + told[i + 1:]
                values += [rest, told[:i] + [entry] + told[i:], told + [entry], [entry] + told]
                values += [rest[:k] + [entry] + rest[k:] for k in range(len(told))]
            for value, many in self.check_by_words(watch, *values).items():
                counted[value] += many
        self.assertGreater(min(counted.values()), 50, counted)

    def test_events_changed(self):
        chance = random.Random(234)
        counted = {True: 0, False: 0}
        for watch, watcher in small_watchers(235, 80):
            told = watch_log(watcher)
            scene = (watch, (), False)
            for i, (event, news, doubts) in enumerate(told):
                events = [random_scene_event(chance, scene) for _ in range(4)] + parts_changed(event)
                events += [('end',), ('again', len(scene[1]), '?'), ('again', -1, '?'), ('frame', 'ba'), ('frame', 'a', 'b')]
                for value, many in self.check_by_words(watch, *[
                        with_part(told, i, (other, news, doubts)) for other in events]).items():
                    counted[value] += many
                scene = scene_behind(scene, event)
        self.assertGreater(min(counted.values()), 50, counted)

    def test_parts_changed(self):
        refused = 0
        for watch, events in [(SHORT, [('frame', 'a'), ('frame', '?')]), (TURNED, [('frame', 'a'), ('frame', 'b')]),
                              (MIXED, [('frame', 'abm'), ('frame', 'a'), ('end',)]),
                              (WATCH, [('frame', 'a'), ('frame', 'b'), ('frame', 'c')])]:
            told = log_of(watch, *events)
            self.check(None, watch, told)
            for i, entry in enumerate(told):
                values = [with_part(told, i, changed) for changed in parts_changed(entry)]
                counted = self.check_by_words(watch, *values)
                refused += counted[False]
        self.assertGreater(refused, 1000)

    def test_pairs_tables_and_cuts_changed(self):
        seen = 0
        for watch, watcher in small_watchers(236, 100):
            told = watch_log(watcher)
            scene = (watch, (), False)
            for i, (event, news, doubts) in enumerate(told):
                scene = scene_behind(scene, event)
                for at, (k, pair, table, cut) in enumerate(news):
                    seen += 1
                    self.check(i, watch, *[
                        with_part(told, i, (event, with_part(news, at, part), doubts)) for part in
                        [(k, (pair[0], pair[1] + 1), table, cut), (k, pair[::-1] + (0,), table, cut), (k, None, table, cut),
                         (k, list(pair), table, cut), (k, pair, table), (k, pair, table, cut, cut), (k, pair, cut, table),
                         (k, pair, table, list(cut)), (k, pair, table, cut[:-1] + ((9, 9),)), (k, pair, table, None),
                         (k, pair, table, cut + cut[-1:]), (k, pair, None, cut), [k, pair, table, cut], (str(k), pair, table, cut)]
                        + [(k, pair, other, cut) for other in lists_disturbed(table)[:60]]])
                    for other in all_whole((watch[0], 0, 16), ())[:20]:
                        right = is_whole(*scene[:2], other)
                        self.check(None if right else i, watch, with_part(told, i, (event, with_part(
                            news, at, (k, pair, table, other)), doubts)))
        self.assertGreater(seen, 40)

    def test_doubts_changed(self):
        seen = 0
        for watch, watcher in small_watchers(237, 100):
            told = watch_log(watcher)
            for i, (event, news, doubts) in enumerate(told):
                for at, (k, one, other) in enumerate(doubts):
                    seen += 1
                    self.check(i, watch, *[
                        with_part(told, i, (event, news, with_part(doubts, at, part))) for part in
                        [(k, other, one), (k, one, one), (k, other, other), (k, one), (k, one, other, other), [k, one, other],
                         (None, one, other), (str(k), one, other), (k, list(one), other), (k, one, list(other)),
                         (k, one[:-1] + ((9, 9),), other), (k, one, other + other[-1:]), (k, None, other), (k, one, None),
                         (k, (), other), (-1, one, other), (len(one) + 16, one, other), (10 ** 29, one, other)]])
        self.assertGreater(seen, 150)

    def test_frames_told_twice_or_not_at_all_or_in_the_wrong_list(self):
        moved = 0
        for watch, watcher in small_watchers(238, 120):
            told = watch_log(watcher)
            scene = (watch, (), False)
            for i, (event, news, doubts) in enumerate(told):
                scene = scene_behind(scene, event)
                some_watch, head, _ = scene
                for at, part in enumerate(news):
                    rest = news[:at] + news[at + 1:]
                    doubt = (part[0], part[3], part[3])
                    self.check(i, watch, with_part(told, i, (event, rest, doubts)),
                               with_part(told, i, (event, news + [part], doubts)),
                               with_part(told, i, (event, news[:at] + [part] + news[at:], doubts)),
                               with_part(told, i, (event, rest, doubts + [doubt])),
                               with_part(told, i, (event, rest, doubts + [part])),
                               with_part(told, i, (event, news, sorted(doubts + [doubt]))))
                    if len(news) > 1:
                        self.check(i, watch, with_part(told, i, (event, news[::-1], doubts)))
                for at, part in enumerate(doubts):
                    rest = doubts[:at] + doubts[at + 1:]
                    new = (part[0], part[1][part[0]], find_marked(some_watch, head, part[0]), part[1])
                    self.check(i, watch, with_part(told, i, (event, news, rest)),
                               with_part(told, i, (event, news, doubts + [part])),
                               with_part(told, i, (event, news, doubts[:at] + [part] + doubts[at:])),
                               with_part(told, i, (event, sorted(news + [new]), rest)),
                               with_part(told, i, (event, news + [part], rest)))
                    if len(doubts) > 1:
                        self.check(i, watch, with_part(told, i, (event, news, doubts[::-1])))
                before = {part[0] for entry in told[:i] for part in entry[1]}
                for k in sorted(before):
                    moved += 1
                    # a frame that was told is not told again, even if all of it is right
                    pair, cut = sure_by_trying(some_watch, head)[k], find_whole(some_watch, head)
                    new = (k, pair, find_marked(some_watch, head, k), cut)
                    self.check(i, watch, with_part(told, i, (event, sorted(news + [new]), doubts)))
        self.assertGreater(moved, 50)

    def test_told_later_than_it_is_sure(self):
        watch = (STOCK, 0, 16)
        told = log_of(watch, ('frame', 'a'), ('frame', 'b'), ('frame', 'c'), ('again', 0, 'a'))
        late = told[:2] + [(told[2][0], told[2][1][1:], []), (told[3][0], told[2][1][:1], [])]
        self.check(2, watch, late)
        self.check(None, watch, told)
        # a frame that is in doubt is not told before
        early = [(told[0][0], [(0, (0, 0), find_marked(watch, ('a',), 0), find_whole(watch, ('a',)))], [])]
        self.check(0, watch, early, early + told[1:])

    def test_tables_of_other_scenes(self):
        watch = ((('ab', 1, False),), 0, 16)
        told = log_of(watch, ('frame', '?'), ('again', 0, 'a'), ('end',))
        self.assertEqual([[part[:2] for part in entry[1]] for entry in told], [[], [(0, (0, 0))], []])
        ((k, pair, table, cut),) = told[1][1]
        self.check(None, watch, told)
        for other in [find_marked(watch, ('?',), 0), find_marked(watch, ('b',), 0), find_marked(watch, ('a', '?'), 0), []]:
            self.check(1, watch, with_part(told, 1, (told[1][0], [(k, pair, other, cut)], [])))
        for other in [((0, 1),), (), ((0, 0), (0, 1), (0, 1))]:
            self.check(1, watch, with_part(told, 1, (told[1][0], [(k, pair, table, other)], [])))
        # cuts with another number of frames are no whole cuts behind the end
        told = log_of(watch, ('frame', '?'), ('end',), ('again', 0, 'a'))
        ((k, pair, table, cut),) = told[2][1]
        self.assertEqual(cut, ((0, 0),))
        self.check(2, watch, with_part(told, 2, (told[2][0], [(k, pair, table, ((0, 0), (0, 1)))], [])))
        self.check(1, watch, with_part(told, 1, (told[1][0], [], [(0, ((0, 0), (0, 1)), ((0, 1),))])))

    def test_truths(self):
        watch = SHORT
        told = log_of(watch, ('frame', 'a'), ('frame', 'a'), ('again', 0, 'a'))
        self.check(None, watch, told)
        (event, news, doubts), later = told[1], told[2]
        one, other = news
        self.check(1, watch, with_part(told, 1, (event, [(False,) + one[1:], other], doubts)),
                   with_part(told, 1, (event, [one, (True,) + other[1:]], doubts)),
                   with_part(told, 1, (event, [(0, (False, 0)) + one[2:], other], doubts)),
                   with_part(told, 1, (event, [(0, (0, False)) + one[2:], other], doubts)),
                   with_part(told, 1, (event, [one[:3] + (((0, 0), (0, True)),), other], doubts)))
        self.check(2, watch, with_part(told, 2, (('again', False, 'a'), later[1], later[2])))
        ((k, first, second),) = told[0][2]
        self.check(0, watch, with_part(told, 0, (told[0][0], [], [(False, first, second)])),
                   with_part(told, 0, (told[0][0], [], [(0, ((False, 0),), second)])),
                   with_part(told, 0, (told[0][0], [], [(0, first, ((0, True),))])))

    def test_other_values(self):
        told = log_of(SHORT, ('frame', 'a'), ('frame', '?'))
        event, news, doubts = told[0]
        later, later_news, _ = told[1]
        k, pair, table, cut = later_news[0]
        for value in ODD:
            if type(value) is not list:
                self.assertIs(is_watch_log(SHORT, value), False)
            elif value:
                self.check(0, SHORT, value)
            self.check(0, SHORT, [value], [value] + told, [(value, news, doubts)] + told[1:], [(event, value, doubts)]
                       if value != [] else [value], [(event, news, value)], [(event, [value], doubts)],
                       [(event, news, [value])], [(event, news, doubts + [value])], [told[0] + (value,)],
                       [((value,), news, doubts)], [(('frame', value), news, doubts)] if value not in ('a', '?') else [value],
                       [(event, news, [(value,) + doubts[0][1:]])] if value != 0 or type(value) is bool else [value],
                       [(event, news, [(0, value, doubts[0][2])])] if value != ((0, 0),) else [value],
                       [(event, news, [(0, doubts[0][1], value)])])
            self.check(1, SHORT, told[:1] + [value], told[:1] + [(later, [value] + later_news[1:], [])],
                       told[:1] + [(later, later_news + [value], [])], told[:1] + [(later, [(k, pair, value, cut)]
                                                                                  + later_news[1:], [])],
                       told[:1] + [(later, [(k, pair, table, value)] + later_news[1:], [])],
                       told[:1] + [(later, [(k, value, table, cut)] + later_news[1:], [])] if value != (0, 0)
                       else told[:1] + [value])
            self.check(2, SHORT, told + [value])

    def test_logs_of_other_watches(self):
        found = small_watchers(239, 120)
        accepted = 0
        for (watch, watcher), (other, _) in zip(found, found[1:]):
            told = watch_log(watcher)
            stock, least, most = watch
            for further in [other, (stock, least, most - 1), (stock, least + 1, most), (stock[::-1], least, most), (FREE, 0, 16)]:
                if further[1] <= further[2] and all_whole(further, ()):
                    accepted += self.check_by_words(further, told)[True]
        self.assertGreater(accepted, 20)

    def test_many_entries(self):
        watch = (FREE, 0, 16)
        told = log_of(watch, *[('frame', '?')] * 3, *[('again', n % 3, 'abc') for n in range(60)])
        self.check(None, watch, told)
        self.assertTrue(find_parted(watch, ('abc',) * 3, 0))
        self.check(62, watch, told[:62] + [(told[62][0], [], [])])


if __name__ == '__main__':
    unittest.main()
