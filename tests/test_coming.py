"""Stage 17: what can come."""

import random
import unittest

from reelsplice.coming import can_end, next_letters
from tests.helper import LONG_WATCH, SHORT, SIXTEEN, WATCH, all_whole, signs_along, small_heads


class Coming(unittest.TestCase):

    def check(self, watch, head):
        before = repr((watch, head))
        n = len(head)
        cuts = all_whole(watch, head)
        letters = sorted({signs_along(watch[0], cut[n:n + 1]) for cut in cuts if len(cut) > n})
        for _ in range(2):
            self.assertEqual(next_letters(watch, head), ''.join(letters), (watch, head))
            self.assertIs(can_end(watch, head), n in {len(cut) for cut in cuts}, (watch, head))
        self.assertEqual(repr((watch, head)), before)
        return letters, can_end(watch, head)

    def test_against_all(self):
        seen = [self.check(watch, head) for watch, head in small_heads(172, 700)]
        kinds = [(bool(letters), ending) for letters, ending in seen]
        for kind in [(True, True), (True, False), (False, True), (False, False)]:
            self.assertGreater(kinds.count(kind), 40, kind)

    def test_as_the_letters_come(self):
        # each letter of next_letters, and no other, may follow
        for watch, head in small_heads(173, 150):
            letters = next_letters(watch, head)
            for letter in 'abcx':
                alive = bool(all_whole(watch, head + (letter,)))
                self.assertEqual(letter in letters, alive, (watch, head, letter))

    def test_least_and_most(self):
        stock = (('ab', 1, True), ('ca', 2, False))
        for least in range(17):
            for most in range(least, 17):
                for head in [(), ('a',), ('?', '?'), ('?', 'c', '?'), ('?',) * 4, ('?',) * 5, ('x',), ('?', '')]:
                    self.check((stock, least, most), head)

    def test_heads_of_sixteen_frames(self):
        chance = random.Random(174)
        for _ in range(8):
            cut = chance.choice(all_whole(SIXTEEN, ()))
            head = tuple(chance.choice(['?', sign]) for sign in signs_along(SIXTEEN[0], cut))
            for n in (0, 5, 14, 15, 16):
                self.check(SIXTEEN, head[:n])
            self.assertEqual((next_letters(SIXTEEN, head), can_end(SIXTEEN, head)), ('', True))
            self.assertEqual((next_letters((SIXTEEN[0], 0, 15), head), can_end((SIXTEEN[0], 0, 15), head)), ('', False))
            self.assertEqual((next_letters(SIXTEEN, ('x',) * 16), can_end(SIXTEEN, ('x',) * 16)), ('', False))

    def test_by_hand(self):
        self.assertEqual((next_letters(WATCH, ()), can_end(WATCH, ())), ('a', False))
        self.assertEqual((next_letters(SHORT, ('a', '?')), can_end(SHORT, ('a', '?'))), ('', True))
        self.assertEqual((next_letters(LONG_WATCH, ()), can_end(LONG_WATCH, ())), ('ab', False))
        watch = ((('ab', 2, False),), 0, 0)
        self.assertEqual((next_letters(watch, ()), can_end(watch, ())), ('', True))


if __name__ == '__main__':
    unittest.main()
