"""[71], [72]: the plates of a sheet, and a sheet with another row."""

import unittest

from lanternrows import errors
from lanternrows.pictures import pictures_from
from lanternrows.plates import changed, plates
from lanternrows.sheets import is_sheet
from tests import things
from tests.things import refusal

STILL = (0, 0, ())


class Plates(unittest.TestCase):
    def test_by_hand(self):
        sheet = (((((2, 2), (1, 1), (2, 1)), None),), STILL)
        place = ((0, 1), (0, 1))
        self.assertEqual(plates(sheet, 0), [])
        self.assertEqual(plates(sheet, 1), [((2,), place)])
        self.assertEqual(plates(sheet, 2), [((2,), place)])
        self.assertEqual(plates(sheet, 4), [((1,), place), ((2,), place)])
        self.assertEqual(plates(sheet, 5), [((0,), place), ((1,), place), ((2,), place)])
        self.assertEqual(plates(sheet, 200), [((0,), place), ((1,), place), ((2,), place)])

    def test_it_rises_as_tuples_compare_and_not_as_fractions_do(self):
        sheet = ((((), None),), (0, 0, ((1, 0, 3),)))
        told = plates(sheet, 3)
        # 1 through 3 and 1 through 1 have one top, so the less bottom goes first.
        self.assertEqual(told, [
            ((0,), ((1, 1), (0, 1))), ((0,), ((1, 3), (0, 1))), ((0,), ((2, 3), (0, 1))),
        ])
        below = ((((), None),), (0, 0, ((-1, -1, 2),)))
        self.assertEqual(plates(below, 2), [((0,), ((-1, 1), (-1, 1))), ((0,), ((-1, 2), (-1, 2)))])

    def test_drawings_go_ahead_of_places(self):
        sheet = (((((9, 1), (1, 1)), None), (((1, 1), (9, 1)), None)), (-5, 0, ((5, 0, 2),)))
        self.assertEqual(plates(sheet, 2), [((1, 9), ((5, 1), (0, 1))), ((9, 1), ((0, 1), (0, 1)))])

    def test_sheets_of_all_sorts(self):
        for sheet in things.some_sheets() + things.mixed_sheets(120):
            shown = things.plain_pictures(sheet, 200)
            for many in (0, 1, 2, 7, 60, 199, 200):
                told = plates(sheet, many)
                self.assertEqual(things.in_kind(told), things.in_kind(sorted(set(shown[:many]))), (sheet, many))
                self.assertTrue(all(one < other for one, other in zip(told, told[1:])))

    def test_a_sheet_that_goes_round_and_one_that_does_not(self):
        rows = ((1, 1), (2, 1))
        place = ((0, 1), (0, 1))
        self.assertEqual(plates((((rows, 0),), STILL), 200), [((1,), place), ((2,), place)])
        self.assertEqual(plates((((rows, None),), STILL), 200), [((0,), place), ((1,), place), ((2,), place)])
        self.assertEqual(plates((((rows, 1),), STILL), 200), [((1,), place), ((2,), place)])

    def test_the_list_is_new_each_time(self):
        for many in (0, 1, 30, 200):
            first, second = plates(things.SHEET, many), plates(things.SHEET, many)
            self.assertIsNot(first, second)
            kept = list(second)
            first.append("more")
            first.reverse()
            first[0] = None
            self.assertEqual(second, kept)
            self.assertEqual(plates(things.SHEET, many), kept)

    def test_the_ends_of_the_number(self):
        for many in (0, 1, 200):
            self.assertIsNone(refusal(plates, things.SHEET, many))
        for many in (-1, 201, True, False, None, "1", (1,)):
            self.assertIs(refusal(plates, things.SHEET, many), errors.NoNumber)


class Changed(unittest.TestCase):
    def test_by_hand(self):
        sheet = (((((1, 2), (3, 4)), 1), ((), None), (((5, 6),), None)), (7, 8, ((9, 10, 11),)))
        self.assertEqual(
            changed(sheet, 0, 0, (9, 24)),
            (((((9, 24), (3, 4)), 1), ((), None), (((5, 6),), None)), (7, 8, ((9, 10, 11),))),
        )
        self.assertEqual(
            changed(sheet, 0, 1, (0, 1)),
            (((((1, 2), (0, 1)), 1), ((), None), (((5, 6),), None)), (7, 8, ((9, 10, 11),))),
        )
        self.assertEqual(
            changed(sheet, 2, 0, (5, 7)),
            (((((1, 2), (3, 4)), 1), ((), None), (((5, 7),), None)), (7, 8, ((9, 10, 11),))),
        )

    def test_each_layer_and_each_row(self):
        for sheet in things.some_sheets() + things.mixed_sheets(60):
            for layer, (rows, back) in enumerate(sheet[0]):
                for place in range(len(rows)):
                    for row in ((0, 1), (9, 24), (5, 7), rows[place]):
                        told = changed(sheet, layer, place, row)
                        due = things.replaced(sheet, (0, layer, 0, place), row)
                        self.assertEqual(things.in_kind(told), things.in_kind(due))
                        self.assertTrue(is_sheet(told))

    def test_the_sheet_that_is_handed_in_stays(self):
        sheet = (((((1, 2), (3, 4)), 1),), STILL)
        before = things.in_kind(sheet)
        shown = pictures_from(sheet, 0, 20)
        changed(sheet, 0, 0, (9, 24))
        self.assertEqual(things.in_kind(sheet), before)
        self.assertEqual(pictures_from(sheet, 0, 20), shown)

    def test_a_layer_that_there_is_not(self):
        for many in range(1, 5):
            sheet = (((((1, 1),), None),) * many, STILL)
            for layer in (many, many + 1, -1, -many, things.FIGURES):
                self.assertIs(refusal(changed, sheet, layer, 0, (1, 1)), errors.NoNumber)
            for layer in things.WRONG_NUMBERS:
                self.assertIs(refusal(changed, sheet, layer, 0, (1, 1)), errors.NoNumber)

    def test_a_row_that_there_is_not(self):
        for many in range(9):
            sheet = (((((1, 1),) * 8, None), (((2, 2),) * many, None)), STILL)
            for place in (many, many + 1, -1, -many - 1, things.FIGURES):
                self.assertIs(refusal(changed, sheet, 1, place, (1, 1)), errors.NoNumber)
            for place in things.WRONG_NUMBERS:
                self.assertIs(refusal(changed, sheet, 1, place, (1, 1)), errors.NoNumber)
            for place in range(many):
                self.assertIsNone(refusal(changed, sheet, 1, place, (1, 1)))

    def test_what_is_no_row(self):
        sheet = (((((1, 1), (2, 2)), 0),), STILL)
        for row in things.WRONG_ROWS + things.STRANGE + things.spoiled(things.ROW):
            self.assertIs(refusal(changed, sheet, 0, 1, row), errors.NoRow, row)

    def test_the_leftmost_first(self):
        sheet = (((((1, 1), (2, 2)), 0), ((), None)), STILL)
        self.assertIs(refusal(changed, None, 9, 9, None), errors.NoSheet)
        self.assertIs(refusal(changed, None, 0, 0, (1, 1)), errors.NoSheet)
        self.assertIs(refusal(changed, sheet, 2, 9, None), errors.NoNumber)
        self.assertIs(refusal(changed, sheet, 0, 2, None), errors.NoNumber)
        self.assertIs(refusal(changed, sheet, 0, True, (1, 25)), errors.NoNumber)
        self.assertIs(refusal(changed, sheet, False, 0, (1, 25)), errors.NoNumber)
        self.assertIs(refusal(changed, sheet, 1, 0, (1, 25)), errors.NoNumber)
        self.assertIs(refusal(changed, sheet, 0, 0, (1, 25)), errors.NoRow)
