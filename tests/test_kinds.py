"""[2], [3], [11]: what is a layer, a window, a sheet, and what is none."""

import unittest

from lanternrows.sheets import is_layer, is_sheet, is_window
from tests import things


class Layers(unittest.TestCase):
    def taken(self, thing):
        self.assertIs(is_layer(thing), True, thing)

    def test_small_and_full_ones(self):
        for layer in things.small_layers() + things.full_layers():
            self.taken(layer)

    def test_each_drawing_and_each_hold(self):
        for drawing in range(10):
            for hold in range(1, 25):
                self.taken((((drawing, hold),), None))
                self.taken((((0, 1), (drawing, hold)), 1))

    def test_none_to_eight_rows_with_each_back(self):
        for many in range(9):
            for back in [None, *range(many)]:
                self.taken((((3, 3),) * many, back))

    def test_no_others(self):
        for thing in things.wrong_layers():
            self.assertIs(is_layer(thing), False, thing)

    def test_a_back_that_is_no_number_of_a_row(self):
        for many in range(9):
            for back in (-1, many, many + 1, -many - 1, True, False, things.FIGURES):
                self.assertIs(is_layer((((3, 3),) * many, back)), False, (many, back))


class Windows(unittest.TestCase):
    def taken(self, thing):
        self.assertIs(is_window(thing), True, thing)

    def test_small_and_full_ones(self):
        for window in things.small_windows() + things.full_windows():
            self.taken(window)

    def test_each_place(self):
        for x in range(-20, 21):
            for y in (-20, -1, 0, 1, 20):
                self.taken((x, y, ()))
                self.taken((y, x, ()))
                self.taken((0, 0, ((x, y, 1), (y, x, 0))))

    def test_each_many(self):
        for many in range(25):
            self.taken((0, 0, ((0, 0, many),)))

    def test_none_to_eight_moves(self):
        for many in range(9):
            self.taken((0, 0, ((1, 2, 3),) * many))

    def test_no_others(self):
        for thing in things.wrong_windows():
            self.assertIs(is_window(thing), False, thing)


class Sheets(unittest.TestCase):
    def test_sheets(self):
        for sheet in things.some_sheets():
            self.assertIs(is_sheet(sheet), True, sheet)

    def test_one_to_four_layers(self):
        for many in range(1, 5):
            for layer in (((), None), things.LAYER):
                self.assertIs(is_sheet(((layer,) * many, (0, 0, ()))), True)

    def test_each_small_layer_and_window(self):
        for layer in things.small_layers():
            self.assertIs(is_sheet(((layer,), things.WINDOW)), True)
        for window in things.small_windows():
            self.assertIs(is_sheet(((things.LAYER,), window)), True)

    def test_no_others(self):
        for thing in things.wrong_sheets():
            self.assertIs(is_sheet(thing), False, thing)
