"""Stage 21: watchers."""

import copy
import random
import unittest

from reelsplice.coming import can_end, next_letters
from reelsplice.doubts import verdict
from reelsplice.errors import InvalidEvent, Refused
from reelsplice.heads import is_dead_table
from reelsplice.twins import find_twins, longest_doubt
from reelsplice.watchers import Watcher
from tests.helper import (LONG_WATCH, MIXED, ODD, SHORT, SIXTEEN, TURNED, WATCH, all_whole, made, random_scene_event,
                          random_watch, scene_behind, signs_along, small_heads, sure_by_trying, turning_heads)

STOCK = WATCH[0]
FREE = (('abc', 3, False), ('ab', 2, True))


def kept(watcher):
    """All that a watcher tells, as a text."""
    told = sorted(watcher.told().items())
    return repr((watcher.watch(), watcher.head(), watcher.has_ended(), told, watcher.in_doubt()))


def scene_of(watcher):
    return (watcher.watch(), watcher.head(), watcher.has_ended())


def watcher_of(watch, *events):
    watcher = Watcher(*watch)
    for event in events:
        made(watcher, event)
    return watcher


class Checked(unittest.TestCase):

    def check_state(self, watcher, scene):
        watch, head, ended = scene
        sure = sure_by_trying(watch, head)
        self.assertEqual(repr(scene_of(watcher)), repr(scene))
        self.assertEqual(watcher.told(), sure)
        self.assertEqual(watcher.in_doubt(), [k for k in range(len(head)) if k not in sure])

    def check_accepted(self, watcher, event):
        behind, before = scene_behind(scene_of(watcher), event), watcher.told()
        news = made(watcher, event)
        sure = sure_by_trying(*behind[:2])
        self.assertEqual(news, [(k, pair) for k, pair in sorted(sure.items()) if k not in before])
        self.check_state(watcher, behind)
        # what is sure stays sure
        self.assertTrue(before.items() <= sure.items())
        return news

    def check_refused(self, watcher, event):
        before, (watch, head, _) = kept(watcher), scene_behind(scene_of(watcher), event)
        tables = []
        for _ in range(2):
            with self.assertRaises(Refused) as caught:
                made(watcher, event)
            self.assertIs(type(caught.exception), Refused)
            table = caught.exception.table
            self.assertTrue(is_dead_table(watch, head, table), (watch, head, table))
            self.assertEqual(kept(watcher), before)
            tables.append(copy.deepcopy(table))
            # the caller may change it
            for rows in table:
                rows.append('more')
            table.clear()
        self.assertEqual(tables[0], tables[1])
        self.assertEqual(all_whole(watch, head), [])

    def check_invalid(self, watcher, *events):
        for event in events:
            before, given = kept(watcher), repr(event)
            with self.assertRaises(InvalidEvent) as caught:
                made(watcher, event)
            self.assertIs(type(caught.exception), InvalidEvent)
            self.assertEqual(repr(caught.exception.event), given)
            self.assertEqual((kept(watcher), repr(event)), (before, given))


class Begin(Checked):

    def test_the_beginning(self):
        for watch in [WATCH, LONG_WATCH, SHORT, TURNED, MIXED, SIXTEEN, (FREE, 0, 0), (FREE, 5, 5), (FREE, 3, 16)]:
            watcher = Watcher(*watch)
            self.check_state(watcher, (watch, (), False))
            self.assertEqual((watcher.told(), watcher.in_doubt(), watcher.undo()), ({}, [], None))
            self.check_state(watcher, (watch, (), False))

    def test_refused(self):
        for watch in [(STOCK, 0, 4), (STOCK, 6, 16), (STOCK, 0, 0), (FREE, 6, 16), (SIXTEEN[0], 0, 15), (LONG_WATCH[0], 4, 9)]:
            tables = []
            for _ in range(2):
                with self.assertRaises(Refused) as caught:
                    Watcher(*watch)
                table = caught.exception.table
                self.assertTrue(is_dead_table(watch, (), table))
                tables.append(copy.deepcopy(table))
                table[0].append('more')
                table.append([])
            self.assertEqual(tables[0], tables[1])

    def test_all_lengths(self):
        for stock in (STOCK, FREE, SHORT[0]):
            for least in range(17):
                for most in range(least, 17):
                    watch = (stock, least, most)
                    if all_whole(watch, ()):
                        self.check_state(Watcher(*watch), (watch, (), False))
                    else:
                        self.assertRaises(Refused, Watcher, *watch)


class Drawn(Checked):

    def test_small_watchers(self):
        chance = random.Random(221)
        counted = {}
        news = 0
        for _ in range(220):
            watch = random_watch(chance)
            if not all_whole(watch, ()):
                self.assertRaises(Refused, Watcher, *watch)
                continue
            watcher, events = Watcher(*watch), []
            for _ in range(chance.randint(1, 14)):
                if chance.random() < 0.12:
                    self.assertEqual(repr(watcher.undo()), repr(events.pop() if events else None))
                    self.check_state(watcher, self.replayed(watch, events))
                    continue
                event = random_scene_event(chance, scene_of(watcher))
                if event is None:
                    continue
                accepted = bool(all_whole(*scene_behind(scene_of(watcher), event)[:2]))
                counted[(event[0], accepted)] = counted.get((event[0], accepted), 0) + 1
                if accepted:
                    news += len(self.check_accepted(watcher, event))
                    events.append(event)
                else:
                    self.check_refused(watcher, event)
            self.check_same_by_events(watcher, watch, events)
        self.assertEqual(len(counted), 6)
        self.assertGreater(min(counted.values()), 15, counted)
        self.assertGreater(news, 150)

    def replayed(self, watch, events):
        scene = (watch, (), False)
        for event in events:
            scene = scene_behind(scene, event)
        return scene

    def check_same_by_events(self, watcher, watch, events):
        other = watcher_of(watch, *events)
        self.assertEqual(kept(other), kept(watcher))
        self.assertTrue(watcher == other)
        while events:
            self.assertEqual((watcher.undo(), other.undo()), (events[-1], events[-1]))
            events.pop()
            self.assertEqual(kept(other), kept(watcher))
            self.check_state(watcher, self.replayed(watch, events))
        self.assertEqual((watcher.undo(), other.undo()), (None, None))

    def test_sixteen_frames(self):
        chance = random.Random(222)
        signs = signs_along(SIXTEEN[0], chance.choice(all_whole(SIXTEEN, ())))
        watcher = Watcher(*SIXTEEN)
        for n, sign in enumerate(signs):
            self.check_accepted(watcher, ('frame', chance.choice([sign, '?'])))
            if n < 15:
                self.check_refused(watcher, ('end',))
        self.check_invalid(watcher, ('frame', '?'), ('frame', 'a'), ('frame', 'zz'))
        self.check_refused(watcher, ('again', 3, 'x'))
        for k, sign in enumerate(signs):
            self.check_accepted(watcher, ('again', k, sign))
        self.check_accepted(watcher, ('end',))
        self.check_invalid(watcher, ('frame', '?'), ('end',))
        self.check_accepted(watcher, ('again', 15, '?'))


class Events(Checked):

    def test_what_is_no_frame(self):
        watcher = watcher_of((FREE, 0, 16), ('frame', 'ab'), ('frame', '?'))
        frames = ['ba', 'aa', '?a', 'a?', '??', 'A', 'a b', '\u00e9', 'abcb', '[a]', None, True, 0, ('a',), ['a'], {'a': 1}]
        frames += [value for value in ODD if value not in ('', '?', 'a')]
        self.check_invalid(watcher, *[('frame', frame) for frame in frames], *[('again', 0, frame) for frame in frames])

    def test_frames_of_the_head_that_there_are_not(self):
        watcher = watcher_of((FREE, 0, 16), ('frame', 'ab'), ('frame', '?'))
        ks = [-1, -2, 2, 3, 16, 10 ** 29, -10 ** 29, True, False]
        ks += [value for value in ODD if type(value) is not int]
        self.check_invalid(watcher, *[('again', k, 'a') for k in ks])
        self.check_accepted(watcher, ('again', 1, 'ab'))
        self.check_invalid(Watcher(FREE, 0, 16), ('again', 0, '?'), ('again', -1, '?'), ('again', False, '?'))

    def test_a_seventeenth_frame(self):
        watcher = watcher_of(SIXTEEN, *[('frame', '?')] * 15)
        self.check_accepted(watcher, ('frame', '?'))
        self.check_invalid(watcher, ('frame', '?'), ('frame', ''), ('frame', 'x'), ('frame', None))

    def test_behind_the_end(self):
        watcher = watcher_of((FREE, 0, 16), ('frame', '?'), ('frame', 'ab'), ('end',))
        self.assertEqual((watcher.watch(), watcher.has_ended()), ((FREE, 2, 2), True))
        self.check_invalid(watcher, ('frame', '?'), ('frame', 'a'), ('frame', ''), ('frame', 7), ('end',))
        self.check_refused(watcher, ('again', 0, 'x'))
        self.check_accepted(watcher, ('again', 0, 'ab'))
        self.check_accepted(watcher, ('again', 1, 'a'))
        self.check_invalid(watcher, ('again', 2, '?'), ('frame', '?'), ('end',))
        for event in [('again', 1, 'a'), ('again', 0, 'ab'), ('end',)]:
            self.assertEqual(repr(watcher.undo()), repr(event))
        self.assertEqual((watcher.watch(), watcher.has_ended()), ((FREE, 0, 16), False))
        self.check_accepted(watcher, ('frame', '?'))

    def test_an_end_where_there_are_too_few_or_too_many_frames(self):
        watcher = Watcher(FREE, 2, 3)
        self.check_invalid(watcher, ('end',))
        self.check_accepted(watcher, ('frame', '?'))
        self.check_invalid(watcher, ('end',))
        self.check_accepted(watcher, ('frame', '?'))
        self.check_accepted(watcher, ('end',))
        watcher.undo()
        self.check_accepted(watcher, ('frame', 'a'))
        self.check_refused(watcher, ('frame', '?'))
        self.check_accepted(watcher, ('end',))
        # 3 is from least to most, but no tape of three frames comes out
        watcher = watcher_of((STOCK, 0, 16), ('frame', '?'), ('frame', '?'), ('frame', '?'))
        self.check_refused(watcher, ('end',))

    def test_an_end_of_an_empty_head(self):
        watcher = Watcher(FREE, 0, 16)
        self.assertEqual(self.check_accepted(watcher, ('end',)), [])
        self.assertEqual((watcher.watch(), watcher.head(), watcher.has_ended()), ((FREE, 0, 0), (), True))
        self.check_invalid(watcher, ('end',), ('frame', '?'), ('again', 0, '?'))
        self.assertEqual(watcher.undo(), ('end',))
        self.check_accepted(watcher, ('frame', '?'))
        self.check_refused(Watcher(STOCK, 0, 16), ('end',))
        self.check_invalid(Watcher(FREE, 1, 16), ('end',))

    def test_the_error_listed_first(self):
        watcher = watcher_of((STOCK, 0, 16), ('frame', 'a'))
        self.check_refused(watcher, ('frame', 'x'))
        self.check_refused(watcher, ('frame', ''))
        self.check_refused(watcher, ('again', 0, 'x'))
        self.check_invalid(watcher, ('frame', 'xx'), ('again', 1, 'x'), ('again', False, 'x'), ('again', 0, 'yx'))
        watcher = watcher_of((STOCK, 3, 16), ('frame', 'a'))
        self.check_invalid(watcher, ('end',))
        watcher = Watcher((('a', 0, False),), 1, 1)
        watcher.frame('a')
        self.check_refused(watcher, ('frame', '?'))
        watcher.end()
        self.check_invalid(watcher, ('frame', '?'))

    def test_frames_merged(self):
        watcher = watcher_of((FREE, 0, 16), ('frame', 'abc'), ('frame', '?'))
        self.check_accepted(watcher, ('again', 0, '?'))
        self.check_accepted(watcher, ('again', 0, 'bcz'))
        self.assertEqual(watcher.head(), ('bc', '?'))
        self.check_refused(watcher, ('again', 0, 'a'))
        self.check_refused(watcher, ('again', 0, ''))
        self.check_accepted(watcher, ('again', 1, 'ab'))
        self.assertEqual(watcher.head(), ('bc', 'ab'))

    def test_again_on_a_frame_that_is_told(self):
        watcher = Watcher((('abc', 0, False),), 0, 16)
        self.assertEqual(self.check_accepted(watcher, ('frame', '?')), [(0, (0, 0))])
        self.assertEqual(self.check_accepted(watcher, ('again', 0, 'ab')), [])
        self.assertEqual(self.check_accepted(watcher, ('again', 0, 'a')), [])
        self.check_refused(watcher, ('again', 0, 'b'))
        self.assertEqual(watcher.told(), {0: (0, 0)})
        self.assertEqual(self.check_accepted(watcher, ('frame', '?')), [(1, (0, 1))])

    def test_news_of_earlier_frames(self):
        watcher = Watcher(*SHORT)
        self.assertEqual(self.check_accepted(watcher, ('frame', 'a')), [])
        self.assertEqual(watcher.in_doubt(), [0])
        # a free frame and the end make others sure
        self.assertEqual(self.check_accepted(watcher, ('frame', '?')), [(0, (0, 0)), (1, (0, 1))])
        watcher = watcher_of((WATCH[0], 0, 16), ('frame', 'a'), ('frame', 'b'))
        self.assertEqual(self.check_accepted(watcher, ('frame', 'c')), [(0, (0, 0)), (1, (0, 1)), (2, (0, 2))])
        watcher = watcher_of(((('ab', 1, False),), 0, 16), ('frame', '?'))
        self.assertEqual(watcher.in_doubt(), [0])
        self.assertEqual(self.check_accepted(watcher, ('again', 0, 'b')), [(0, (0, 1))])
        stock = (('ab', 0, False), ('a', 1, False))
        watcher = watcher_of((stock, 0, 16), ('frame', '?'), ('frame', '?'))
        self.assertEqual(watcher.told(), {})
        self.assertEqual(self.check_accepted(watcher, ('end',)), [(0, (0, 0)), (1, (0, 1))])
        self.assertEqual(self.check_accepted(watcher, ('again', 0, 'a')), [])
        self.assertEqual((watcher.undo(), watcher.undo()), (('again', 0, 'a'), ('end',)))
        self.assertEqual(watcher.in_doubt(), [0, 1])
        # behind the end a frame may be told by a reading
        watcher = watcher_of(((('ab', 1, False),), 0, 16), ('frame', '?'), ('end',))
        self.assertEqual(self.check_accepted(watcher, ('again', 0, 'ax')), [(0, (0, 0))])

    def test_errors_hold_copies(self):
        watcher = watcher_of((FREE, 0, 16), ('frame', '?'))
        value = [['a'], {'a': [0]}]
        given = copy.deepcopy(value)
        with self.assertRaises(InvalidEvent) as caught:
            watcher.frame(value)
        self.assertEqual(caught.exception.event, ('frame', given))
        value[0].append('more')
        self.assertEqual(caught.exception.event, ('frame', given))
        k, frame = [0], ['a']
        with self.assertRaises(InvalidEvent) as caught:
            watcher.again(k, frame)
        k.append(1)
        frame.clear()
        self.assertEqual(caught.exception.event, ('again', [0], ['a']))


class Undone(Checked):

    def test_down_to_the_beginning(self):
        events = [('frame', 'ab'), ('frame', '?'), ('again', 1, 'abc'), ('frame', 'bc'), ('again', 0, 'a'), ('end',),
                  ('again', 1, 'b')]
        watcher = Watcher(FREE, 1, 16)
        states = [kept(watcher)]
        for event in events:
            self.check_accepted(watcher, event)
            states.append(kept(watcher))
        for k in reversed(range(len(events))):
            self.assertEqual(repr(watcher.undo()), repr(events[k]))
            self.assertEqual(kept(watcher), states[k])
        for _ in range(3):
            self.assertIsNone(watcher.undo())
            self.assertEqual(kept(watcher), states[0])
        for k, event in enumerate(events):
            self.check_accepted(watcher, event)
            self.assertEqual(kept(watcher), states[k + 1])

    def test_behind_a_refusal(self):
        for event in [('frame', 'a'), ('again', 0, 'b'), ('end',)]:
            watcher = watcher_of((FREE, 1, 16), ('frame', 'ab'), ('frame', '?'))
            begun = kept(watcher)
            self.check_accepted(watcher, event)
            self.check_refused(watcher, ('again', 0, 'x'))
            self.assertEqual(repr(watcher.undo()), repr(event))
            self.assertEqual(kept(watcher), begun)
            self.check_refused(watcher, ('again', 0, 'x'))
            self.check_invalid(watcher, ('again', 9, 'a'))
            self.assertEqual(repr(watcher.undo()), repr(('frame', '?')))

    def test_news_come_again_behind_an_undo(self):
        watcher = watcher_of(SHORT, ('frame', 'a'))
        for _ in range(3):
            self.assertEqual(self.check_accepted(watcher, ('frame', 'a')), [(0, (0, 0)), (1, (0, 1))])
            self.assertEqual(watcher.undo(), ('frame', 'a'))
            self.assertEqual(watcher.told(), {})


class Compared(Checked):

    def equal(self, one, other):
        return [one == other, other == one, not one != other, not other != one]

    def test_equal_events(self):
        events = [('frame', 'ab'), ('again', 0, 'a'), ('frame', '?'), ('end',)]
        for n in range(5):
            one, other = watcher_of((FREE, 0, 16), *events[:n]), watcher_of((FREE, 0, 16), *events[:n])
            self.assertEqual(self.equal(one, other), [True] * 4)
            self.assertEqual(self.equal(one, one), [True] * 4)
            for m in range(n):
                self.assertEqual(self.equal(one, watcher_of((FREE, 0, 16), *events[:m])), [False] * 4)
        one = watcher_of((FREE, 0, 16), *events)
        one.undo()
        self.assertEqual(self.equal(one, watcher_of((FREE, 0, 16), *events[:3])), [True] * 4)
        self.assertRaises(Refused, one.again, 0, 'x')
        self.assertRaises(InvalidEvent, one.again, 0, 'xx')
        self.assertEqual(self.equal(one, watcher_of((FREE, 0, 16), *events[:3])), [True] * 4)

    def test_one_part_changed(self):
        one = watcher_of((FREE, 0, 16), ('frame', 'ab'), ('again', 0, 'a'), ('frame', '?'))
        for events in [[('frame', 'abc'), ('again', 0, 'a'), ('frame', '?')], [('frame', 'ab'), ('again', 0, 'ab'), ('frame', '?')],
                       [('frame', 'ab'), ('frame', '?'), ('again', 0, 'a')], [('frame', 'ab'), ('again', 0, 'a'), ('frame', 'a')],
                       [('frame', 'ab'), ('again', 0, 'a')], [('frame', 'a'), ('frame', '?')], [],
                       [('frame', 'ab'), ('again', 0, 'a'), ('frame', '?'), ('end',)]]:
            self.assertEqual(self.equal(one, watcher_of((FREE, 0, 16), *events)), [False] * 4)

    def test_equal_heads_of_other_events(self):
        self.assertEqual(self.equal(watcher_of(SHORT, ('frame', 'a')), watcher_of(SHORT, ('frame', '?'), ('again', 0, 'a'))),
                         [False] * 4)
        self.assertEqual(self.equal(watcher_of(SHORT, ('frame', 'a'), ('again', 0, '?')), watcher_of(SHORT, ('frame', 'a'))),
                         [False] * 4)
        # the same watch behind the end, but not at the beginning
        one, other = watcher_of(SHORT, ('frame', 'a'), ('end',)), watcher_of((SHORT[0], 1, 1), ('frame', 'a'), ('end',))
        self.assertEqual(kept(one), kept(other))
        self.assertEqual(self.equal(one, other), [False] * 4)

    def test_other_beginnings(self):
        one = Watcher(FREE, 0, 16)
        for watch in [(FREE, 1, 16), (FREE, 0, 15), (FREE[::-1], 0, 16), (FREE[:1], 0, 16), ((('abc', 2, False), FREE[1]), 0, 16),
                      ((('abd', 3, False), FREE[1]), 0, 16), ((FREE[0], ('ab', 2, False)), 0, 16), SHORT]:
            self.assertEqual(self.equal(one, Watcher(*watch)), [False] * 4)

    def test_no_watcher_at_all(self):
        watcher = watcher_of(SHORT, ('frame', 'a'))
        for value in ODD + [watcher.head(), watcher.watch(), watcher.told(), Watcher, object()]:
            self.assertEqual(self.equal(watcher, value), [False] * 4)


class Copies(Checked):

    def test_what_was_told(self):
        watcher = watcher_of((WATCH[0], 0, 16), ('frame', 'a'), ('frame', 'b'))
        news = watcher.frame('c')
        before = kept(watcher)
        news.clear()
        told, doubts = watcher.told(), watcher.in_doubt()
        told[0] = 'more'
        told.pop(1)
        doubts.append('more')
        self.assertEqual(kept(watcher), before)
        self.assertEqual(watcher.undo(), ('frame', 'c'))
        self.assertEqual(watcher.frame('c'), [(0, (0, 0)), (1, (0, 1)), (2, (0, 2))])

    def test_watchers_have_nothing_in_common(self):
        one, other = Watcher(*SHORT), Watcher(*SHORT)
        begun = kept(other)
        one.frame('a')
        one.end()
        self.assertEqual(kept(other), begun)
        other.frame('?')
        self.assertEqual(one.head(), ('a',))

    def test_what_was_given(self):
        reels = [FREE[0], FREE[1]]
        watcher = Watcher(tuple(reels), 0, 16)
        reels.clear()
        self.check_state(watcher, ((FREE, 0, 16), (), False))


class Told(Checked):
    """Point [28]."""

    def check_letters(self, watcher, k, left):
        """Follows all letters that can come; frame k is in doubt until then, and has so many further ones at most."""
        watch, head = watcher.watch(), watcher.head()
        if k in watcher.told():
            return 1
        self.assertGreaterEqual(left, 0, (watch, head, k))
        if can_end(watch, head):
            self.assertIn(k, [told for told, _ in watcher.end()])
            self.assertEqual(watcher.undo(), ('end',))
        many = 0
        for letter in next_letters(watch, head):
            watcher.frame(letter)
            many += self.check_letters(watcher, k, left - 1)
            watcher.undo()
        return many

    def test_without_twins(self):
        frames = ways = 0
        for watch, head in turning_heads(223, 900) + small_heads(224, 150) + small_heads(225, 150, True):
            for k in range(len(head)):
                if verdict(watch, head, k) == 'doubt' and find_twins(watch, head, k) is None:
                    frames += 1
                    watcher = watcher_of(watch, *[('frame', frame) for frame in head])
                    # behind as many letters as the longest doubt it may still be in doubt, behind one more it is not
                    ways += self.check_letters(watcher, k, longest_doubt(watch, head, k))
        self.assertTrue(frames > 50 and ways > 100, (frames, ways))

    def test_the_longest_doubt_is_reached(self):
        seen = 0
        for watch, head in turning_heads(226, 200) + small_heads(227, 100, True):
            for k in range(len(head)):
                longest = longest_doubt(watch, head, k)
                if longest is not None:
                    seen += longest > 0
                    watcher = watcher_of(watch, *[('frame', frame) for frame in head])
                    self.assertEqual(self.deepest(watcher, k, longest), longest)
        self.assertGreater(seen, 60)

    def deepest(self, watcher, k, left):
        """Behind how many letters, up to a number, frame k can still be in doubt."""
        if left == 0:
            return 0
        found = 0
        for letter in next_letters(watcher.watch(), watcher.head()):
            watcher.frame(letter)
            if k in watcher.in_doubt():
                found = max(found, 1 + self.deepest(watcher, k, left - 1))
            watcher.undo()
            if found == left:
                break
        return found

    def test_with_twins(self):
        seen = 0
        for watch, head in turning_heads(228, 100) + small_heads(229, 100):
            for k in range(len(head)):
                twins = find_twins(watch, head, k)
                if twins is not None:
                    seen += 1
                    watcher = watcher_of(watch, *[('frame', frame) for frame in head])
                    for letter in signs_along(watch[0], twins[0][len(head):]):
                        watcher.frame(letter)
                        self.assertIn(k, watcher.in_doubt())
                    watcher.end()
                    self.assertIn(k, watcher.in_doubt())
        self.assertGreater(seen, 100)


if __name__ == '__main__':
    unittest.main()
