"""The examples of the document, just as they are written there."""

import unittest

from reelsplice.cases import is_case, is_saying, is_stock, is_tape
from reelsplice.counts import count_cuts, nth_cut, number_of
from reelsplice.cuts import find_cut, is_cut
from reelsplice.possible import possible, signs_of, sure_frames
from reelsplice.strangers import fewest_strangers, find_loose, find_values, is_loose, shows
from reelsplice.tables import ends, find_table, first_row, is_table, steps

CASE = ((('abc', 0, False), ('bd', 0, False)), ('a', 'b', '?', 'd', 'c'), ())
BACK = ((('bd', 1, False),), ('d', 'b'), ())

CASES = """
>>> [is_stock(CASE[0]), is_stock((('ab', 3, False),)), is_tape(('ab', '?', '')), is_tape(('ba',)), is_case(BACK)]
[True, False, True, False, True]
>>> [is_saying(5, 2, ('same', 0, 4)), is_saying(5, 2, ('of', 4, 2)), is_saying(5, 2, ('apart', 3, 3))]
[True, False, False]
"""

CUTS = """
>>> [is_cut(CASE, ((0, 0), (0, 1), (1, 0), (1, 1), (0, 2))), is_cut(CASE, ((0, 0), (0, 1), (1, 0), (0, 2), (1, 1))), find_cut(BACK)]
[True, False, None]
>>> [find_cut(((('bd', 0, True),), ('d', 'b'), ())), find_cut(((('bd', 1, False),), ('?',), (('of', 0, 0),))) in [((0, 0),), ((0, 1),)]]
[((0, 1), (0, 0)), True]
"""

TABLES = """
>>> [first_row(BACK), steps(BACK, 0, first_row(BACK)), steps(BACK, 1, (((1, 1, 0),), ()))]
[(((0, -1, 0),), ()), [(0, 1, (((1, 1, 0),), ()))], []]
>>> [is_table(BACK, [[(((0, -1, 0),), ())], [(((1, 1, 0),), ())], []]), is_table(BACK, [[(((0, -1, 0),), ())], [], []]), find_table(CASE)]
[True, False, None]
"""

COUNTS = """
>>> [count_cuts(CASE), nth_cut(CASE, 1), nth_cut(CASE, 2), number_of(CASE, ((0, 0), (0, 1), (1, 0), (1, 1), (0, 2)))]
[2, ((0, 0), (1, 0), (0, 1), (1, 1), (0, 2)), None, 0]
>>> [count_cuts((CASE[0], CASE[1], (('apart', 0, 1),))), count_cuts(BACK), count_cuts(((('ab', 2, False),), (), ()))]
[1, 0, 1]
"""

POSSIBLE = """
>>> [possible(CASE)[1], signs_of(CASE), sure_frames(CASE), possible(BACK), signs_of(BACK), sure_frames(BACK)]
[[(0, 1), (1, 0)], ('a', 'b', 'b', 'd', 'c'), [0, 3, 4], [[], []], ('', ''), []]
"""

STRANGERS = """
>>> [find_loose(((('bd', 0, False),), ('b', 'x', 'd'), ())), fewest_strangers(CASE), fewest_strangers(BACK)]
[((0, 0), None, (0, 1)), 0, 1]
>>> [fewest_strangers(((('bd', 0, False),), ('d', 'b'), ())), is_loose(BACK, (None, (0, 0)))]
[None, True]
"""


class Examples(unittest.TestCase):

    def check(self, text):
        lines = text.split('\n')
        asked = [k for k, line in enumerate(lines) if line.startswith('>>> ')]
        self.assertTrue(asked)
        for k in asked:
            answer = eval(lines[k][4:], globals())
            # by their texts, since True == 1
            self.assertEqual(repr(answer), repr(eval(lines[k + 1])), lines[k])

    def test_cases(self):
        self.check(CASES)

    def test_cuts(self):
        self.check(CUTS)

    def test_tables(self):
        self.check(TABLES)
        self.assertEqual([ends(BACK, (((1, 1, 0),), ())), ends(BACK, first_row(BACK))], [True, False])

    def test_counts(self):
        self.check(COUNTS)

    def test_possible(self):
        self.check(POSSIBLE)

    def test_strangers(self):
        self.check(STRANGERS)
        self.assertEqual([shows(CASE, find_values(CASE), 0), shows(CASE, find_values(CASE), 1)], [True, False])
        self.assertEqual([shows(BACK, find_values(BACK), 1), shows(BACK, find_values(BACK), 2)], [True, False])


if __name__ == '__main__':
    unittest.main()
