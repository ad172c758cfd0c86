"""Stage 1: the errors, made by hand."""

import unittest

from reelsplice.errors import InvalidEvent, InvalidText, ReelspliceError, Refused

KINDS = {InvalidEvent: ('read', 9, 'a'), Refused: [[(((0, -1, 0),), ())], []], InvalidText: 'no tape'}


class Errors(unittest.TestCase):

    def test_each_is_of_its_own_class_alone(self):
        for kind, argument in KINDS.items():
            error = kind(argument)
            for other in KINDS:
                self.assertEqual(isinstance(error, other), kind is other)
            self.assertIsInstance(error, ReelspliceError)
            self.assertIsInstance(error, ValueError)

    def test_their_bases(self):
        self.assertEqual(ReelspliceError.__bases__, (ValueError,))
        for kind in KINDS:
            self.assertEqual(kind.__bases__, (ReelspliceError,))
            self.assertEqual(kind.__module__, 'reelsplice.errors')

    def test_they_can_be_raised_and_caught(self):
        for kind, argument in KINDS.items():
            for caught in (kind, ReelspliceError, ValueError):
                with self.assertRaises(caught):
                    raise kind(argument)

    def test_attributes_hold_what_was_given(self):
        for event in [('read', 9, 'a'), (), ('say', [1, {'a': [True, None]}]), ('undo',)]:
            self.assertEqual(repr(InvalidEvent(event).event), repr(event))
        for table in [[], [[], []], [[(((0, -1, 0),), ())], [(((1, 1, 0),), ())], []], [1, 'x', None, {}]]:
            self.assertEqual(repr(Refused(table).table), repr(table))

    def test_attributes_stay_when_others_are_made(self):
        first, empty = InvalidEvent(('end',)), InvalidEvent(())
        refused, bare = Refused([[1]]), Refused([])
        others = [InvalidEvent(('drop', k)) for k in range(5)] + [Refused([[k], []]) for k in range(5)]
        self.assertEqual((first.event, empty.event, refused.table, bare.table), (('end',), (), [[1]], []))
        self.assertEqual(others[3].event, ('drop', 3))
        self.assertEqual(others[8].table, [[3], []])

    def test_what_they_hold_is_new(self):
        table = [[(((0, -1, 0),), ())], []]
        refused, again = Refused(table), Refused(table)
        table[0].append('more')
        table.append([])
        again.table[1].append('less')
        self.assertEqual(refused.table, [[(((0, -1, 0),), ())], []])
        event = ('say', ['same', {'a': [0]}])
        error = InvalidEvent(event)
        event[1].append(1)
        event[1][1]['a'].append(1)
        self.assertEqual(error.event, ('say', ['same', {'a': [0]}]))

    def test_the_arguments_are_not_modified(self):
        table, event = [[(1,)], [[2]]], ('say', [1])
        Refused(table).table[1][0].append(3)
        InvalidEvent(event).event[1].append(2)
        self.assertEqual((table, event), ([[(1,)], [[2]]], ('say', [1])))


if __name__ == '__main__':
    unittest.main()
