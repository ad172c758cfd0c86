"""Stage 2: stocks, tapes, sayings and cases."""

import unittest

from reelsplice.cases import is_case, is_saying, is_stock, is_tape
from tests.helper import BACK, CASE, ODD, large_cases, parts_changed, random_cases

PLAIN = ('ab', 0, False)


class Stocks(unittest.TestCase):

    def check(self, expected, *stocks):
        for stock in stocks:
            self.assertIs(is_stock(stock), expected, stock)

    def test_ordinary(self):
        self.check(True, (PLAIN,), (PLAIN, PLAIN), (('zzz', 1, True), ('a', 1, False), ('az', 0, True)), CASE[0])

    def test_signs(self):
        self.check(True, (('a', 0, False),), (('abcdefghij', 0, False),), (('zyxwvutsrq', 0, True),))
        self.check(False, (('', 0, False),), (('abcdefghijk', 0, False),))
        for sign in ['A', '?', ' ', '1', '\u00e9', '`', '{', '\n', '\u0430']:
            self.check(False, ((sign, 0, False),), (('a' + sign, 0, False),))

    def test_reels(self):
        self.check(True, (PLAIN,) * 4)
        self.check(False, (), (PLAIN,) * 5, ((PLAIN + (0,)),), (PLAIN[:2],), ((),))

    def test_loss(self):
        self.check(True, (('abc', 0, False),), (('abc', 3, False),), (('abcdefghij', 10, False),))
        self.check(False, (('abc', 4, False),), (('abc', -1, False),), (('abcdefghij', 11, False),))

    def test_product(self):
        ten, three, six = ('abcdefghij', 9, True), ('aaa', 0, False), ('abc', 1, False)
        self.check(True, (ten, three), (three, ten, ('x', 0, False)), (six, six, six, ('xx', 0, False)))
        self.check(True, (('abcdefghij', 2, False), ('abcdefghij', 0, True)))
        self.check(False, (ten, ('aaaa', 0, False)), (ten, three, ('a', 1, False)), (ten, three, ('a', 0, True)))
        self.check(True, (('abcdefghij', 10, False), ('abcde', 0, False)))
        self.check(False, (('abcdefghij', 10, False), ('abcde', 0, False), ('a', 1, False)))
        self.check(False, (six, six, six, three), (('abcdefgh', 0, True), ('abcdefgh', 0, False), ('abcde', 0, False)))

    def test_600_and_the_product_next_above(self):
        five, four, six = ('abcde', 0, False), ('abcd', 0, False), ('abcdef', 0, False)
        self.check(True, (five, five, six, four), (('abcde', 4, False), six, four), (five, five, four, six))
        self.check(False, (five,) * 4, (('abcde', 4, False), five, five), (('abcde', 4, False),) * 2)

    def test_the_products_of_two_reels(self):
        factors = [(n, loss, turns, n * (loss + 1) * (2 if turns else 1))
                   for n in range(1, 11) for loss in range(n + 1) for turns in (False, True)]
        above = 10 ** 9
        for n, loss, turns, many in factors:
            for other, its_loss, its_turns, as_many in factors:
                stock = (('a' * n, loss, turns), ('b' * other, its_loss, its_turns))
                self.assertIs(is_stock(stock), many * as_many <= 600)
                if many * as_many > 600:
                    above = min(above, many * as_many)
        self.assertEqual(above, 625)

    def test_kinds(self):
        self.check(False, (('ab', False, False),), (('ab', True, False),), (('ab', 0, 0),), (('ab', 0, 1),))
        self.check(False, (('ab', 0, None),), ((['a', 'b'], 0, False),), (('ab', '0', False),), ((('a',), 0, False),))
        self.check(False, [PLAIN], (['ab', 0, False],), (PLAIN, None), {PLAIN: 0}, 'ab', (b'ab',), PLAIN)

    def test_other_values(self):
        self.check(False, *ODD)
        self.check(False, *[changed for changed in parts_changed((PLAIN, PLAIN)) if changed != (PLAIN,)])


class Tapes(unittest.TestCase):

    def check(self, expected, *tapes):
        for tape in tapes:
            self.assertIs(is_tape(tape), expected, tape)

    def test_ordinary(self):
        self.check(True, (), ('',), ('?',), ('a',), ('abc', 'z', '?', '', 'mx'), ('abcdefghijklmnopqrstuvwxyz',))

    def test_frames(self):
        self.check(False, ('ba',), ('aa',), ('a', 'abb'), ('acb',), ('??',), ('a?',), ('?a',), ('A',), ('a b',))
        self.check(False, ('\u00e9',), ('a{',), ('`a',), ('1',), ('a', None), ('a', 0), (True,), (['a'],), (('a',),))

    def test_length(self):
        self.check(True, ('?',) * 16, ('',) * 16)
        self.check(False, ('?',) * 17, ('a',) * 400)

    def test_other_values(self):
        self.check(False, *[value for value in ODD if value != ()])
        self.check(False, ['a', 'b'], 'ab', '', {'a': 'b'}, {}, [])


class Sayings(unittest.TestCase):

    def check(self, expected, *sayings):
        for saying in sayings:
            self.assertIs(is_saying(5, 2, saying), expected, saying)

    def test_about_frames(self):
        for word in ('same', 'apart'):
            for j in range(-2, 8):
                for k in range(-2, 8):
                    self.check(0 <= j < k < 5, (word, j, k))

    def test_about_reels(self):
        for word in ('of', 'off'):
            for j in range(-2, 8):
                for r in range(-2, 5):
                    self.check(0 <= j < 5 and 0 <= r < 2, (word, j, r))

    def test_no_frames(self):
        self.assertFalse(is_saying(0, 4, ('of', 0, 0)))
        self.assertFalse(is_saying(1, 4, ('same', 0, 1)))
        self.assertTrue(is_saying(1, 4, ('off', 0, 3)))
        self.assertTrue(is_saying(16, 1, ('apart', 14, 15)))

    def test_other_words(self):
        for word in ['', 'Same', 'same ', 'ofof', 'on', None, 0, True, ['same'], ('same',), {}]:
            self.check(False, (word, 0, 1))

    def test_other_values(self):
        self.check(False, ('same', 0), ('same', 0, 1, 2), ['same', 0, 1], ('same', False, 1), ('same', 0, True))
        self.check(False, ('of', False, 0), ('of', 0, True), ('off', 0, None), ('off', '0', 0), ('of', 0, [0]))
        self.check(False, *[value for value in ODD if value != ('same', 0, 1)])
        for word in ('same', 'apart', 'of', 'off'):
            self.check(False, *parts_changed((word, 0, 1)))


class Cases(unittest.TestCase):

    def check(self, expected, *cases):
        for case in cases:
            self.assertIs(is_case(case), expected, case)

    def test_ordinary(self):
        self.check(True, CASE, BACK, *random_cases(1, 50))
        self.check(True, *large_cases())

    def test_sayings(self):
        stock, tape = CASE[:2]
        saying = ('same', 0, 4)
        self.check(True, (stock, tape, (saying,) * 4), (stock, tape, (('of', 4, 1), ('off', 0, 0))))
        self.check(False, (stock, tape, (saying,) * 5), (stock, tape, (saying, None)), (stock, tape, [saying]))

    def test_sayings_about_what_there_is_not(self):
        stock, tape = CASE[:2]
        for saying in [('same', 0, 5), ('of', 5, 0), ('off', 0, 2), ('apart', 4, 5), ('of', 0, -1), ('same', 1, 0)]:
            self.check(False, (stock, tape, (saying,)), (stock, tape, (('same', 0, 1), saying)))
        self.check(False, (stock, (), (('of', 0, 0),)))

    def test_parts(self):
        stock, tape, _ = CASE
        self.check(False, (stock, tape), (stock, tape, (), ()), (tape, stock, ()), [stock, tape, ()], (stock, tape, None))
        self.check(False, ((), tape, ()), (stock, ('ba',), ()), (stock, list(tape), ()), (list(stock), tape, ()))
        self.check(False, (stock, ('?',) * 17, ()), (stock * 3, tape, ()))

    def test_other_values(self):
        self.check(False, *ODD)
        self.check(False, *[(CASE[0], CASE[1], value) for value in ODD if value != ()])
        self.check(False, *[(CASE[0], value, ()) for value in ODD if value != ()])
        self.check(False, *[(value, (), ()) for value in ODD])


if __name__ == '__main__':
    unittest.main()
