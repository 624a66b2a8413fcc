"""[12]: the lengths of layers, windows and sheets."""

import unittest

from lanternrows.sheets import layer_length, sheet_length, window_length
from tests import things

STILL = (0, 0, ())


def straight(*holds):
    return (tuple((1, hold) for hold in holds), None)


class Lengths(unittest.TestCase):
    def test_layers_by_hand(self):
        self.assertEqual(layer_length(((), None)), 0)
        self.assertEqual(layer_length((((0, 1),), None)), 1)
        self.assertEqual(layer_length((((9, 3), (0, 24), (2, 5)), None)), 32)
        self.assertEqual(layer_length((((5, 24),) * 8, None)), 192)

    def test_layers_that_go_round_have_none(self):
        self.assertIsNone(layer_length((((5, 24),), 0)))
        for many in range(1, 9):
            for back in range(many):
                self.assertIsNone(layer_length((((5, 2),) * many, back)))

    def test_layers_are_as_long_as_their_holds(self):
        for rows, back in things.small_layers() + things.full_layers():
            told = layer_length((rows, back))
            if back is None:
                self.assertEqual(things.in_kind(told), [int, sum(hold for drawing, hold in rows)])
            else:
                self.assertIsNone(told)

    def test_windows_by_hand(self):
        self.assertEqual(window_length((5, -5, ())), 0)
        self.assertEqual(window_length((5, -5, ((0, 0, 0),))), 0)
        self.assertEqual(window_length((5, -5, ((20, 20, 7),))), 7)
        self.assertEqual(window_length((0, 0, ((1, 1, 24),) * 8)), 192)

    def test_windows_are_as_long_as_their_moves(self):
        for window in things.small_windows() + things.full_windows():
            self.assertEqual(things.in_kind(window_length(window)), [int, sum(move[2] for move in window[2])])

    def test_sheets_by_hand(self):
        self.assertEqual(sheet_length(((((), None),), STILL)), 0)
        self.assertEqual(sheet_length(((straight(3),), STILL)), 3)
        self.assertEqual(sheet_length(((straight(3),), (0, 0, ((1, 1, 2),)))), 3)
        self.assertEqual(sheet_length(((straight(3),), (0, 0, ((1, 1, 4),)))), 4)
        self.assertEqual(sheet_length(((((), None),), (0, 0, ((1, 1, 4), (0, 0, 2))))), 6)
        self.assertEqual(sheet_length(((straight(3), straight(2, 7), straight(1)), (0, 0, ((1, 1, 8),)))), 9)

    def test_the_longest_layer_may_stand_anywhere(self):
        for at in range(4):
            layers = [straight(2)] * 4
            layers[at] = straight(24, 5)
            self.assertEqual(sheet_length((tuple(layers), (0, 0, ((1, 1, 3),)))), 29)

    def test_a_sheet_with_a_layer_that_goes_round_has_none(self):
        for many in range(1, 5):
            for at in range(many):
                layers = [straight(2)] * many
                layers[at] = (((1, 1), (2, 2)), 1)
                self.assertIsNone(sheet_length((tuple(layers), STILL)))
                self.assertIsNone(sheet_length((tuple(layers), (0, 0, ((1, 1, 24),) * 8))))
                layers[at] = (((0, 1),), 0)
                self.assertIsNone(sheet_length((tuple(layers), STILL)))
