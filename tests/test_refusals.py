"""[4], [5]: what is refused, in which order, and that nothing handed in is changed."""

import copy
import unittest

from lanternrows import errors, pictures, sheets
from tests import things
from tests.things import refusal

STILL = (((((1, 1),), None),), (0, 0, ()))


class Refused(unittest.TestCase):
    def all_refused(self, due, asked, wrong, ahead=(), rest=()):
        for thing in wrong:
            told = refusal(asked, *ahead, thing, *rest)
            self.assertIs(told, due, (asked.__name__, thing))

    def test_layers(self):
        self.all_refused(errors.NoLayer, sheets.layer_length, things.wrong_layers())
        self.all_refused(errors.NoLayer, pictures.drawing_at, things.wrong_layers(), rest=(0,))

    def test_windows(self):
        self.all_refused(errors.NoWindow, sheets.window_length, things.wrong_windows())
        self.all_refused(errors.NoWindow, pictures.place_at, things.wrong_windows(), rest=(0,))

    def test_sheets(self):
        self.all_refused(errors.NoSheet, sheets.sheet_length, things.wrong_sheets())
        self.all_refused(errors.NoSheet, pictures.picture_at, things.wrong_sheets(), rest=(0,))
        self.all_refused(errors.NoSheet, pictures.pictures_from, things.wrong_sheets(), rest=(0, 1))
        self.all_refused(errors.NoSheet, pictures.pictures_from, things.wrong_sheets()[:300], rest=(0, 0))

    def test_moments(self):
        wrong = things.WRONG_MOMENTS
        self.all_refused(errors.NoMoment, pictures.drawing_at, wrong, ahead=(things.LAYER,))
        self.all_refused(errors.NoMoment, pictures.drawing_at, wrong, ahead=(((), None),))
        self.all_refused(errors.NoMoment, pictures.place_at, wrong, ahead=(things.WINDOW,))
        self.all_refused(errors.NoMoment, pictures.place_at, wrong, ahead=((0, 0, ()),))
        self.all_refused(errors.NoMoment, pictures.picture_at, wrong, ahead=(things.SHEET,))
        self.all_refused(errors.NoMoment, pictures.pictures_from, wrong, ahead=(things.SHEET,), rest=(1,))
        self.all_refused(errors.NoMoment, pictures.pictures_from, wrong, ahead=(things.SHEET,), rest=(0,))

    def test_manies(self):
        for moment in (0, 7, things.GREAT):
            ahead = (things.SHEET, moment)
            self.all_refused(errors.NoNumber, pictures.pictures_from, things.WRONG_MANIES, ahead=ahead)

    def test_what_is_right_is_not_refused(self):
        for moment in (0, 1, things.GREAT):
            self.assertIsNone(refusal(pictures.drawing_at, things.LAYER, moment))
            self.assertIsNone(refusal(pictures.place_at, things.WINDOW, moment))
            self.assertIsNone(refusal(pictures.picture_at, things.SHEET, moment))
            for many in (0, 1, 200):
                self.assertIsNone(refusal(pictures.pictures_from, things.SHEET, moment, many))


class LeftmostFirst(unittest.TestCase):
    def test_two_wrong_at_once(self):
        for wrong in things.STRANGE + [None]:
            for moment in things.WRONG_MOMENTS:
                self.assertIs(refusal(pictures.drawing_at, wrong, moment), errors.NoLayer)
                self.assertIs(refusal(pictures.place_at, wrong, moment), errors.NoWindow)
                self.assertIs(refusal(pictures.picture_at, wrong, moment), errors.NoSheet)
                self.assertIs(refusal(pictures.pictures_from, wrong, moment, 1), errors.NoSheet)
            for many in things.WRONG_MANIES:
                self.assertIs(refusal(pictures.pictures_from, wrong, 0, many), errors.NoSheet)

    def test_the_moment_is_looked_at_ahead_of_the_number(self):
        for moment in things.WRONG_MOMENTS:
            for many in things.WRONG_MANIES:
                self.assertIs(refusal(pictures.pictures_from, STILL, moment, many), errors.NoMoment)

    def test_all_wrong_at_once(self):
        for wrong in things.STRANGE + [None]:
            self.assertIs(refusal(pictures.pictures_from, wrong, wrong, wrong), errors.NoSheet)
            self.assertIs(refusal(pictures.pictures_from, wrong, -1, 201), errors.NoSheet)

    def test_a_sheet_whose_parts_are_wrong_is_no_sheet(self):
        layers, window = things.SHEET
        for sheet in ((((), 0),), window), (layers, (0, 0, None)), ((5,), 5), (layers, None):
            self.assertIs(refusal(sheets.sheet_length, sheet), errors.NoSheet)
            self.assertIs(refusal(pictures.picture_at, sheet, -1), errors.NoSheet)


class Unchanged(unittest.TestCase):
    def ask_all(self, thing):
        for is_one in (sheets.is_layer, sheets.is_window, sheets.is_sheet):
            is_one(thing)
        for length in (sheets.layer_length, sheets.window_length, sheets.sheet_length):
            refusal(length, thing)
        for shown in (pictures.drawing_at, pictures.place_at, pictures.picture_at):
            refusal(shown, thing, 3)
        refusal(pictures.drawing_at, things.LAYER, thing)
        refusal(pictures.place_at, things.WINDOW, thing)
        refusal(pictures.picture_at, things.SHEET, thing)
        refusal(pictures.pictures_from, thing, 3, 3)
        refusal(pictures.pictures_from, things.SHEET, thing, 3)
        refusal(pictures.pictures_from, things.SHEET, 3, thing)

    def test_what_is_handed_in_stays_as_it_was(self):
        right = things.some_sheets() + things.small_layers()[:40] + things.small_windows()[:40]
        wrong = things.STRANGE + things.spoiled(things.LAYER) + things.spoiled(things.WINDOW)
        wrong += things.spoiled(things.SHEET)
        for thing in right + wrong:
            before = copy.deepcopy(thing)
            self.ask_all(thing)
            self.assertEqual(things.in_kind(thing), things.in_kind(before))

    def test_nothing_hangs_on_what_is_done_to_it_later(self):
        rows = [(1, 1)]
        thing = (rows, None)
        self.assertIs(sheets.is_layer(thing), False)
        rows.append((2, 2))
        self.assertIs(sheets.is_layer(thing), False)
        self.assertIs(sheets.is_layer((tuple(rows), None)), True)

    def test_the_same_question_has_the_same_answer(self):
        for sheet in things.some_sheets():
            layers, window = sheet
            for asked, handed in (
                (sheets.is_sheet, (sheet,)), (sheets.sheet_length, (sheet,)), (sheets.window_length, (window,)),
                (sheets.layer_length, (layers[0],)), (pictures.drawing_at, (layers[0], 7)),
                (pictures.place_at, (window, 7)), (pictures.picture_at, (sheet, 7)),
                (pictures.pictures_from, (sheet, 7, 7)),
            ):
                first = asked(*handed)
                refusal(asked, None, *handed[1:])
                self.assertEqual(asked(*handed), first)
