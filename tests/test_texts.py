"""Stage 13: texts."""

import random
import unittest

from reelsplice.cases import is_tape
from reelsplice.errors import InvalidText
from reelsplice.texts import read_tape, write_tape
from tests.helper import ODD

FRAMES = ['?', '', 'a', 'z', 'ab', 'acz', 'abcdefghijklmnopqrstuvwxyz']
TAPES = [(), ('',), ('?',), ('a',), ('', ''), ('a', 'bc', '?', ''), ('abcdefghijklmnopqrstuvwxyz',) * 16, ('',) * 16]


def tape_by_words(text):
    """The tape that a text writes, sign by sign, or None."""
    frames, inside = [], None
    for sign in text:
        if inside is None:
            if sign != '[':
                return None
            inside = ''
        elif sign == ']':
            frames.append(inside)
            inside = None
        else:
            inside += sign
    tape = tuple(frames)
    return tape if inside is None and is_tape(tape) else None


class Texts(unittest.TestCase):

    def check_none(self, *values):
        for value in values:
            before = repr(value)
            with self.assertRaises(InvalidText) as caught:
                read_tape(value)
            self.assertIs(type(caught.exception), InvalidText)
            self.assertEqual(repr(value), before)

    def check_text(self, text):
        tape = tape_by_words(text)
        if tape is None:
            self.check_none(text)
        else:
            self.assertEqual(read_tape(text), tape)

    def test_there_and_back(self):
        chance = random.Random(131)
        tapes = TAPES + [tuple(chance.choice(FRAMES) for _ in range(n)) for n in range(17) for _ in range(20)]
        for tape in tapes:
            text = write_tape(tape)
            self.assertEqual(text, ''.join('[' + frame + ']' for frame in tape))
            self.assertEqual(repr(read_tape(text)), repr(tape))
            self.assertEqual(read_tape(text), read_tape(text))
            self.assertEqual(write_tape(read_tape(text)), text)

    def test_signs_out_of_order_or_twice(self):
        self.check_none('[ba]', '[aa]', '[a][cab]', '[abca]', '[zy]', '[abb]', '[a][][bb]')

    def test_unread_frames(self):
        self.check_none('[?a]', '[a?]', '[??]', '[ab?c]', '?', '[a]?', '?[a]', '[?][a?]')
        self.assertEqual(read_tape('[?][?]'), ('?', '?'))

    def test_brackets(self):
        self.check_none('[', ']', '][', '[[', ']]', '[]]', '[[]', '[[]]', '[a', 'a]', 'a', ']a[', '[a]b]', '[a[b]', '[a][',
                        '[a]]', '[[a]', '[[a]]', '][a]', '[a]][b]', '[a][[b]', '[a[]b]', '(a)', '{a}', '[a)', '[]a[]')

    def test_other_signs(self):
        for sign in [' ', '\n', 'A', '0', ',', '-', '\u00e9', '\u0430', '\x00', '`', '{', '\\', '"', '\t', '.', '_']:
            self.check_none(sign, sign + '[a]', '[a]' + sign, '[' + sign + ']', '[a' + sign + ']', '[a]' + sign + '[b]',
                            '[' + sign + 'a]', '[a' + sign + 'b]')

    def test_length(self):
        self.assertEqual(len(read_tape('[a]' * 16)), 16)
        self.check_none('[a]' * 17, '[]' * 17, '[?]' * 17, '[]' * 250, '[' * 500, ']' * 500, 'a' * 500, '[a][' * 125)
        self.assertEqual(read_tape('[abcdefghijklmnopqrstuvwxyz]' * 16), ('abcdefghijklmnopqrstuvwxyz',) * 16)

    def test_one_sign_changed(self):
        for tape in TAPES[:6] + [('ab', 'c', '?')]:
            text = write_tape(tape)
            for k in range(len(text) + 1):
                self.check_text(text[:k] + text[k + 1:])
                for sign in '[]?abcz ':
                    self.check_text(text[:k] + sign + text[k:])
                    self.check_text(text[:k] + sign + text[k + 1:])

    def test_drawn_texts(self):
        chance = random.Random(132)
        tapes = 0
        for _ in range(5000):
            parts = [chance.choice(['[a]', '[]', '[?]', '[ab]', '[', ']', 'a', 'b', '?']) for _ in range(chance.randint(0, 6))]
            text = ''.join(parts)
            tapes += tape_by_words(text) is not None
            self.check_text(text)
        self.assertTrue(500 < tapes < 4500, tapes)
        for _ in range(200):
            self.check_text(''.join(chance.choice('[]ab?') for _ in range(chance.randint(100, 500))))

    def test_other_values(self):
        self.check_none(*[value for value in ODD if value != ''])
        self.check_none(('a',), ['a'], ['[a]'], ('[a]',), {'[a]': 1}, 10 ** 29, True)
        self.assertEqual(read_tape(''), ())


if __name__ == '__main__':
    unittest.main()
