"""Stage 20: settling."""

import random
import unittest

from reelsplice.coming import can_end, next_letters
from reelsplice.doubts import verdict
from reelsplice.settling import settling
from tests.helper import SHORT, SIXTEEN, WATCH, all_whole, signs_along, small_heads, turning_heads


class Settling(unittest.TestCase):

    def by_trying(self, watch, head, k):
        """The letters that can come next, and '' if the tape can end, each with whether one pair is left at frame k."""
        n = len(head)
        behind = {}
        for cut in all_whole(watch, head):
            letter = signs_along(watch[0], cut[n:n + 1])
            behind.setdefault(letter, set()).add(cut[k])
        return {letter: len(pairs) == 1 for letter, pairs in behind.items()}

    def check(self, watch, head, k):
        before = repr((watch, head))
        told, expected = settling(watch, head, k), self.by_trying(watch, head, k)
        self.assertEqual(told, expected, (watch, head, k))
        self.assertEqual({type(value) for value in told.values()}, {bool})
        self.assertEqual(settling(watch, head, k), told)
        self.assertEqual(set(told) - {''}, set(next_letters(watch, head)))
        self.assertIs('' in told, can_end(watch, head))
        self.assertEqual(repr((watch, head)), before)
        # as verdict tells it behind each letter, and behind the end
        for letter, sure in told.items():
            told_behind = verdict((watch[0], len(head), len(head)), head, k)
            if letter:
                told_behind = verdict(watch, head + (letter,), k)
            self.assertEqual(told_behind, 'sure' if sure else 'doubt')
        return told

    def test_against_all(self):
        counted = {}
        for watch, head in small_heads(211, 300) + small_heads(212, 100, True) + turning_heads(213, 100):
            if all_whole(watch, head):
                for k in range(len(head)):
                    for letter, sure in self.check(watch, head, k).items():
                        counted[(bool(letter), sure)] = counted.get((bool(letter), sure), 0) + 1
        self.assertEqual(len(counted), 4)
        self.assertGreater(min(counted.values()), 50, counted)

    def test_heads_of_sixteen_frames(self):
        chance = random.Random(214)
        for _ in range(3):
            head = tuple(signs_along(SIXTEEN[0], chance.choice(all_whole(SIXTEEN, ()))))
            for n in (16, 15, 8):
                for k in (0, n - 1):
                    told = self.check(SIXTEEN, head[:n], k)
                    self.assertEqual('' in told, n == 16)

    def test_least_and_most(self):
        stock = (('ab', 1, True), ('ca', 2, False))
        for least in range(6):
            for most in range(least, 7):
                for head in [('?',), ('?', 'a'), ('a', '?', '?'), ('?',) * 4]:
                    if all_whole((stock, least, most), head):
                        for k in range(len(head)):
                            self.check((stock, least, most), head, k)

    def test_results_are_new(self):
        told = settling(SHORT, ('a',), 0)
        told['b'] = None
        self.assertEqual(settling(SHORT, ('a',), 0), {'a': True, '': False})
        self.assertEqual(settling(WATCH, ('a', 'b', 'c'), 2), {'a': True})


if __name__ == '__main__':
    unittest.main()
