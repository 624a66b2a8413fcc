"""[6], [21], [22]: what is shown, against plain laying."""

import unittest

from lanternrows.pictures import drawing_at, picture_at, pictures_from, place_at
from tests import things
from tests.things import GREAT


class Drawings(unittest.TestCase):
    def test_by_hand(self):
        rows = ((4, 2), (0, 1), (7, 3))
        shown = [drawing_at((rows, None), moment) for moment in range(9)]
        self.assertEqual(shown, [4, 4, 0, 7, 7, 7, 0, 0, 0])
        shown = [drawing_at((rows, 0), moment) for moment in range(14)]
        self.assertEqual(shown, [4, 4, 0, 7, 7, 7, 4, 4, 0, 7, 7, 7, 4, 4])
        shown = [drawing_at((rows, 1), moment) for moment in range(12)]
        self.assertEqual(shown, [4, 4, 0, 7, 7, 7, 0, 7, 7, 7, 0, 7])
        shown = [drawing_at((rows, 2), moment) for moment in range(10)]
        self.assertEqual(shown, [4, 4, 0, 7, 7, 7, 7, 7, 7, 7])

    def test_no_rows(self):
        for moment in (0, 1, 24, GREAT):
            self.assertEqual(drawing_at(((), None), moment), 0)

    def test_small_layers(self):
        for layer in things.small_layers():
            told = [drawing_at(layer, moment) for moment in range(25)]
            self.assertEqual(things.in_kind(told), things.in_kind(things.plain_drawings(layer, 25)), layer)

    def test_full_layers(self):
        for layer in things.full_layers():
            told = [drawing_at(layer, moment) for moment in range(420)]
            self.assertEqual(told, things.plain_drawings(layer, 420), layer)

    def test_great_moments(self):
        for layer in things.small_layers() + things.full_layers():
            for moment in (1000, 10 ** 6 + 1, GREAT - 2, GREAT - 1, GREAT):
                self.assertEqual(drawing_at(layer, moment), things.late_drawing(layer, moment), (layer, moment))

    def test_the_last_moment_by_hand(self):
        # 10 ** 9 is 3 ahead and 999999997 behind it, which is 1 more than a multiple of 3.
        self.assertEqual(drawing_at((((9, 3), (1, 1), (2, 1), (3, 1)), 1), GREAT), 2)
        self.assertEqual(drawing_at((((1, 1), (2, 1)), 0), GREAT), 1)
        self.assertEqual(drawing_at((((1, 1), (2, 1)), 0), GREAT - 1), 2)
        self.assertEqual(drawing_at((((1, 1), (2, 1)), None), GREAT), 0)


class Places(unittest.TestCase):
    def test_by_hand(self):
        window = (0, 0, ((1, -1, 2), (4, -4, 3)))
        stood = [place_at(window, moment) for moment in range(7)]
        self.assertEqual(stood, [
            ((1, 2), (-1, 2)), ((1, 1), (-1, 1)), ((2, 1), (-2, 1)), ((3, 1), (-3, 1)), ((4, 1), (-4, 1)),
            ((4, 1), (-4, 1)), ((4, 1), (-4, 1)),
        ])

    def test_no_moves(self):
        for moment in (0, 1, 24, GREAT):
            self.assertEqual(place_at((-20, 3, ()), moment), ((-20, 1), (3, 1)))
            self.assertEqual(place_at((0, 20, ()), moment), ((0, 1), (20, 1)))

    def test_lowest_terms_below_and_at_nought(self):
        stood = [place_at((-2, 2, ((2, -2, 8),)), moment) for moment in range(8)]
        self.assertEqual(stood, [
            ((-3, 2), (3, 2)), ((-1, 1), (1, 1)), ((-1, 2), (1, 2)), ((0, 1), (0, 1)), ((1, 2), (-1, 2)),
            ((1, 1), (-1, 1)), ((3, 2), (-3, 2)), ((2, 1), (-2, 1)),
        ])
        self.assertEqual(place_at((0, 0, ((-1, 20, 24),)), 0), ((-1, 24), (5, 6)))
        self.assertEqual(place_at((-20, 20, ((0, 0, 24),)), 4), ((-95, 6), (95, 6)))

    def test_moves_of_no_pictures(self):
        at_once = (9, 9, ((5, -5, 0),))
        for moment in (0, 1, GREAT):
            self.assertEqual(place_at(at_once, moment), ((5, 1), (-5, 1)))
        several = (9, 9, ((5, -5, 0), (6, 6, 0), (2, 0, 0), (0, 1, 2)))
        self.assertEqual(place_at(several, 0), ((1, 1), (1, 2)))
        self.assertEqual(place_at(several, 1), ((0, 1), (1, 1)))
        between = (0, 0, ((2, 2, 1), (8, 8, 0), (-7, 7, 0), (-9, 9, 2)))
        stood = [place_at(between, moment) for moment in range(4)]
        self.assertEqual(stood, [((2, 1), (2, 1)), ((-8, 1), (8, 1)), ((-9, 1), (9, 1)), ((-9, 1), (9, 1))])
        at_the_end = (0, 0, ((2, 2, 2), (3, -3, 0), (4, -4, 0)))
        stood = [place_at(at_the_end, moment) for moment in range(4)]
        self.assertEqual(stood, [((1, 1), (1, 1)), ((2, 1), (2, 1)), ((4, 1), (-4, 1)), ((4, 1), (-4, 1))])

    def test_each_many_and_each_way(self):
        for many in range(1, 25):
            for x in (-20, -7, -1, 0, 3, 20):
                for goal in (-20, -13, -2, 0, 1, 6, 19, 20):
                    window = (x, goal, ((goal, x, many),))
                    told = [place_at(window, moment) for moment in range(many + 1)]
                    self.assertEqual(told, things.plain_places(window, many + 1), window)

    def test_small_windows(self):
        for window in things.small_windows():
            told = [place_at(window, moment) for moment in range(18)]
            self.assertEqual(things.in_kind(told), things.in_kind(things.plain_places(window, 18)), window)

    def test_full_windows(self):
        for window in things.full_windows():
            told = [place_at(window, moment) for moment in range(200)]
            self.assertEqual(told, things.plain_places(window, 200), window)

    def test_great_moments(self):
        for window in things.small_windows() + things.full_windows():
            last = things.plain_places(window, 200)[-1]
            for moment in (1000, GREAT - 1, GREAT):
                self.assertEqual(place_at(window, moment), last)


class Pictures(unittest.TestCase):
    def test_by_hand(self):
        sheet = (((((1, 1), (2, 1)), 0), (((3, 2),), None), ((), None)), (0, 0, ((1, 0, 2),)))
        told = [picture_at(sheet, moment) for moment in (0, 1, 2, GREAT)]
        self.assertEqual(told, [
            ((1, 3, 0), ((1, 2), (0, 1))), ((2, 3, 0), ((1, 1), (0, 1))),
            ((1, 0, 0), ((1, 1), (0, 1))), ((1, 0, 0), ((1, 1), (0, 1))),
        ])

    def test_one_layer(self):
        sheet = (((((6, 1),), None),), (1, 2, ()))
        self.assertEqual(picture_at(sheet, 0), ((6,), ((1, 1), (2, 1))))

    def test_each_small_layer_and_window(self):
        for layer in things.small_layers()[::3]:
            self.same_as_laid(((layer,), (0, 0, ((1, 3, 4),))), 20)
        for window in things.small_windows()[::5]:
            self.same_as_laid(((((), None), (((1, 2), (2, 1)), 0)), window), 20)

    def test_sheets(self):
        for sheet in things.some_sheets():
            self.same_as_laid(sheet, 230)

    def same_as_laid(self, sheet, many):
        told = [picture_at(sheet, moment) for moment in range(many)]
        self.assertEqual(things.in_kind(told), things.in_kind(things.plain_pictures(sheet, many)), sheet)

    def test_great_moments(self):
        for sheet in things.some_sheets():
            layers, window = sheet
            place = things.plain_places(window, 200)[-1]
            for moment in (1000, GREAT - 1, GREAT):
                drawings = tuple(things.late_drawing(layer, moment) for layer in layers)
                self.assertEqual(picture_at(sheet, moment), (drawings, place), (sheet, moment))


class Lists(unittest.TestCase):
    def test_none(self):
        for moment in (0, 5, GREAT):
            self.assertEqual(pictures_from(things.SHEET, moment, 0), [])

    def test_from_the_beginning(self):
        for sheet in things.some_sheets():
            laid = things.plain_pictures(sheet, 200)
            for many in (1, 2, 17, 199, 200):
                told = pictures_from(sheet, 0, many)
                self.assertEqual(things.in_kind(told), things.in_kind(laid[:many]), sheet)

    def test_from_later_moments(self):
        for sheet in things.some_sheets():
            laid = things.plain_pictures(sheet, 400)
            for moment in (1, 2, 3, 30, 200):
                for many in (0, 1, 9, 200):
                    self.assertEqual(pictures_from(sheet, moment, many), laid[moment:moment + many], sheet)

    def test_from_great_moments(self):
        for sheet in things.some_sheets():
            for moment in (10 ** 6, GREAT - 200, GREAT - 199):
                told = pictures_from(sheet, moment, 200)
                self.assertEqual(told, [picture_at(sheet, moment + ahead) for ahead in range(200)])

    def test_from_the_last_moment_on(self):
        for sheet in things.some_sheets():
            layers, window = sheet
            place = things.plain_places(window, 200)[-1]
            told = pictures_from(sheet, GREAT, 200)
            self.assertEqual(told, [
                (tuple(things.late_drawing(layer, moment) for layer in layers), place)
                for moment in range(GREAT, GREAT + 200)
            ])

    def test_the_list_is_new_each_time(self):
        for many in (0, 3, 200):
            first = pictures_from(things.SHEET, 2, many)
            kept = list(first)
            second = pictures_from(things.SHEET, 2, many)
            self.assertIsNot(first, second)
            first.append("more")
            first.reverse()
            first[0] = None
            self.assertEqual(second, kept)
            self.assertEqual(pictures_from(things.SHEET, 2, many), kept)
            second.clear()
            self.assertEqual(pictures_from(things.SHEET, 2, many), kept)

    def test_a_list_that_is_changed_changes_no_picture(self):
        before = [picture_at(things.SHEET, moment) for moment in range(40)]
        pictures_from(things.SHEET, 0, 40).clear()
        self.assertEqual([picture_at(things.SHEET, moment) for moment in range(40)], before)
