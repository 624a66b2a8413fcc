"""[41]: rounds of layers and sheets, against plain laying."""

import unittest

from lanternrows import errors
from lanternrows.forever import is_round, least_round, sheet_round
from lanternrows.pictures import picture_of
from tests import things

STILL = (0, 0, ())
# Longer than any layer, so that what is shown goes round by then.
LATE = 192


def plain_round(shown):
    """The least round of what is shown, of which the round begins by LATE and is no longer than LATE."""
    found = []
    for many in range(1, LATE + 1):
        unlike = [at for at in range(len(shown) - many) if shown[at] != shown[at + many]]
        ahead = unlike[-1] + 1 if unlike else 0
        if ahead <= LATE:
            found.append((ahead, many))
    return min(found)


def shown_at(layer, moment):
    """What a layer shows, however great the moment."""
    if moment < LATE:
        return things.plain_drawings(layer, moment + 1)[moment]
    return things.late_drawing(layer, moment)


def plainly_comes_again(layer, ahead, many):
    """Whether a layer shows from ahead on what it shows so many moments later, told from enough moments."""
    return all(shown_at(layer, moment) == shown_at(layer, moment + many) for moment in range(ahead, ahead + 2 * LATE))


def around(many, ahead=()):
    """A layer with rows ahead that goes round in so many moments and no fewer."""
    rows = ahead + ((1, 1),) + tuple((2, min(24, many - 1 - done)) for done in range(0, many - 1, 24))
    return (rows, len(ahead))


class LeastRounds(unittest.TestCase):
    def told(self, rows, back, due):
        self.assertEqual(things.in_kind(least_round((rows, back))), things.in_kind(due), (rows, back))

    def test_no_rows(self):
        self.told((), None, (0, 1))

    def test_that_end_in_nothing(self):
        self.told(((1, 3),), None, (3, 1))
        self.told(((1, 3), (0, 5)), None, (3, 1))
        self.told(((0, 5), (1, 3), (0, 5), (0, 24)), None, (8, 1))
        self.told(((0, 5),), None, (0, 1))
        self.told(((0, 5), (0, 24)), 1, (0, 1))
        self.told(((0, 1), (1, 1), (0, 2)), 2, (2, 1))
        self.told(((9, 24),) * 8, None, (192, 1))

    def test_that_show_one_drawing_for_ever(self):
        self.told(((4, 2),), 0, (0, 1))
        self.told(((4, 2), (4, 3)), 0, (0, 1))
        self.told(((4, 2), (4, 3)), 1, (0, 1))
        self.told(((5, 2), (4, 3)), 1, (2, 1))

    def test_that_go_round_in_parts(self):
        self.told(((1, 1), (2, 1), (1, 1), (2, 1)), 0, (0, 2))
        self.told(((1, 2), (2, 1), (1, 2), (2, 1)), 0, (0, 3))
        self.told(((1, 2), (2, 1), (1, 1), (1, 1), (2, 1)), 0, (0, 3))
        self.told(((1, 2), (2, 1), (1, 1), (2, 1)), 0, (0, 5))
        self.told(((1, 1), (2, 1)) * 4, 2, (0, 2))
        self.told(((1, 24), (2, 24)) * 4, 0, (0, 48))
        self.told(((1, 1), (2, 2), (1, 1)), 0, (0, 4))

    def test_whose_rows_ahead_run_into_the_round(self):
        self.told(((3, 1), (2, 1), (1, 1), (2, 1)), 2, (1, 2))
        self.told(((1, 1), (2, 1), (1, 1), (2, 1)), 2, (0, 2))
        self.told(((2, 1), (1, 1), (2, 1)), 1, (0, 2))
        self.told(((2, 3), (1, 1), (2, 1)), 1, (2, 2))
        self.told(((2, 3), (1, 1), (2, 2)), 1, (1, 3))
        self.told(((1, 2), (1, 1), (2, 3), (1, 3)), 2, (0, 6))

    def test_small_layers_against_plain_laying(self):
        for layer in things.small_layers():
            self.assertEqual(least_round(layer), plain_round(things.plain_drawings(layer, 420)), layer)

    def test_full_layers_against_plain_laying(self):
        for layer in things.full_layers() + things.mixed_layers(120):
            self.assertEqual(least_round(layer), plain_round(things.plain_drawings(layer, 600)), layer)

    def test_each_length_of_a_round(self):
        for many in range(2, 169):
            self.assertEqual(least_round(around(many)), (0, many))
            self.assertEqual(least_round((around(many)[0], None)), (many, 1))


class IsRound(unittest.TestCase):
    def test_by_hand(self):
        layer = (((3, 1), (2, 1), (1, 1), (2, 1)), 2)
        for thing in ((1, 2), (2, 2), (1, 4), (7, 6), (10 ** 30 - 1, 2)):
            self.assertIs(is_round(layer, thing), True, thing)
        for thing in ((0, 2), (0, 4), (1, 1), (1, 3), (9, 5), (1, 0), (1, -2), (-1, 2), (10 ** 30 - 1, 3)):
            self.assertIs(is_round(layer, thing), False, thing)

    def test_small_rounds_against_plain_laying(self):
        for layer in things.small_layers():
            shown = things.plain_drawings(layer, 60)
            for ahead in range(11):
                for many in range(1, 12):
                    due = shown[ahead:40] == shown[ahead + many:40 + many]
                    self.assertIs(is_round(layer, (ahead, many)), due, (layer, ahead, many))

    def test_great_ones_against_plain_laying(self):
        for layer in things.small_layers()[::17] + things.full_layers()[::4]:
            least = least_round(layer)[1]
            for ahead in (300, 10 ** 9 + 7, 10 ** 30 - 1):
                for many in (10 ** 27, 10 ** 29 + 1, 10 ** 30 - 1, least * 10 ** 26, least * 10 ** 26 + 1):
                    due = plainly_comes_again(layer, ahead, many)
                    self.assertIs(is_round(layer, (ahead, many)), due, (layer, ahead, many))

    def test_a_great_many_with_an_ahead_about_the_least(self):
        for layer in things.small_layers() + things.full_layers():
            ahead, many = least_round(layer)
            for times in (1, 2, 10 ** 20, 3 * 10 ** 27):
                self.assertIs(is_round(layer, (ahead, many * times)), True, layer)
                self.assertIs(is_round(layer, (ahead + times, many * times)), True, layer)
                self.assertIs(is_round(layer, (ahead - 1, many * times)), False, layer)
                self.assertIs(is_round(layer, (ahead, many * times + 1)), many == 1, layer)

    def test_a_round_of_a_sheet_may_be_handed_in(self):
        for layers, window in things.some_sheets():
            told = sheet_round((layers, window))
            for layer in layers:
                self.assertIs(is_round(layer, told), True)

    def test_things_of_whatever_kind(self):
        wrong = things.STRANGE + [None, (), 0, 1, "01", things.ROW[:1], things.LAYER, things.WINDOW, things.SHEET]
        for layer in (((), None), (((4, 2),), 0), things.LAYER):
            for thing in wrong:
                self.assertIs(is_round(layer, thing), False, thing)

    def test_truths_lists_and_other_lengths(self):
        still = ((), None)
        self.assertIs(is_round(still, (0, 1)), True)
        self.assertIs(is_round(still, (1, 1)), True)
        for thing in (
            (False, 1), (True, 1), (0, True), (1, True), (False, True), (True, True), [0, 1], [1, 1], (0,), (1,), (),
            (0, 1, 1), (0, 1, 0), (0, 1, None), ((0, 1),), ((0,), (1,)), (0, (1,)), ([0], 1), (None, 1), (0, None),
            ("0", 1), (0, "1"), {0: 1}, {0: 0, 1: 1}, (-1, 1), (0, 0), (0, -1), (-10 ** 29, 1), (0, -10 ** 29),
        ):
            self.assertIs(is_round(still, thing), False, thing)

    def test_the_thing_stays_as_it_was(self):
        thing = [0, [1]]
        is_round(things.LAYER, thing)
        self.assertEqual(thing, [0, [1]])

    def test_what_is_no_layer(self):
        for thing in ((0, 1), None, [0, 1]):
            self.assertIs(things.refusal(is_round, ((), 0), thing), errors.NoLayer)


class SheetRounds(unittest.TestCase):
    def test_layers_by_hand(self):
        two, three, five, seven = [around(many) for many in (2, 3, 5, 7)]
        self.assertEqual(things.in_kind(sheet_round(((two, three), STILL))), things.in_kind((0, 6)))
        self.assertEqual(sheet_round(((two, three, five, seven), STILL)), (0, 210))
        self.assertEqual(sheet_round(((around(4), around(6)), STILL)), (0, 12))
        self.assertEqual(sheet_round(((around(12), around(6), two, around(4)), STILL)), (0, 12))
        self.assertEqual(sheet_round(((two, (((1, 5),), None)), STILL)), (5, 2))
        self.assertEqual(sheet_round(((around(2, ((3, 4),)), around(3, ((3, 2),))), STILL)), (4, 6))
        self.assertEqual(sheet_round(((((), None),), STILL)), (0, 1))

    def test_windows_by_hand(self):
        long = ((5, 5, 24), (0, 0, 24)) * 4
        for moves, ahead in (
            ((), 0), (((5, 5, 3),), 2), (((5, 5, 1),), 0), (((5, 5, 0),), 0), (((0, 0, 24),), 0),
            (((5, 5, 3), (5, 5, 24)), 2), (((5, 5, 3), (5, 5, 24), (5, 5, 0), (5, 5, 7)), 2),
            (((5, 5, 3), (0, 0, 0)), 3), (((5, 5, 3), (0, 0, 0), (5, 5, 0)), 2), (((5, 5, 3), (0, 0, 0), (1, 1, 1)), 3),
            (((0, 0, 3), (5, 5, 2)), 4), (((0, 0, 3), (0, 0, 0), (0, 0, 9)), 0), (((0, 1, 2), (0, 1, 2)), 1),
            (long, 191), (long[:7] + ((5, 5, 24),), 167), (((5, 5, 24),) + ((5, 5, 24),) * 7, 23),
        ):
            self.assertEqual(sheet_round(((((), None),), (0, 0, moves))), (ahead, 1), moves)
            self.assertEqual(sheet_round(((around(5),), (0, 0, moves))), (ahead, 5), moves)

    def test_sheets_against_plain_laying(self):
        for layer in things.small_layers()[::3]:
            for window in things.small_windows()[::97]:
                sheet = ((layer, (((2, 1), (1, 1), (0, 1)), 1)), window)
                self.assertEqual(sheet_round(sheet), plain_round(things.plain_pictures(sheet, 410)), sheet)

    def test_windows_against_plain_laying(self):
        layers = ((((2, 1), (1, 3)), 0),)
        for window in things.small_windows()[::11] + things.full_windows() + things.mixed_windows(60):
            sheet = (layers, window)
            self.assertEqual(sheet_round(sheet), plain_round(things.plain_pictures(sheet, 420)), sheet)

    def test_mixed_sheets_against_plain_laying(self):
        asked = 0
        for sheet in things.mixed_sheets(120, 5, 6):
            told = sheet_round(sheet)
            if told[1] <= LATE:
                asked += 1
                self.assertEqual(told, plain_round(things.plain_pictures(sheet, 600)), sheet)
        self.assertGreater(asked, 60)

    def test_a_great_many(self):
        layers = tuple(around(many) for many in (167, 163, 157, 151))
        self.assertEqual(sheet_round((layers, STILL)), (0, 167 * 163 * 157 * 151))
        longest = ((1, 24),) * 7
        full = tuple((longest + ((2, hold),), 0) for hold in (24, 23, 13, 11))
        self.assertEqual(sheet_round((full, (0, 0, ((1, 1, 24),)))), (23, 192 * 191 * 181 * 179))

    def test_a_great_many_is_a_round_and_no_part_of_it_is(self):
        for sheet in things.mixed_sheets(80):
            ahead, many = sheet_round(sheet)
            self.assertTrue(comes_again(sheet, ahead, many), sheet)
            for prime in [number for number in range(2, 193) if many % number == 0]:
                self.assertFalse(comes_again(sheet, ahead, many // prime), (sheet, prime))
            if ahead:
                self.assertNotEqual(picture_of(sheet, ahead - 1), picture_of(sheet, ahead - 1 + many))


def comes_again(sheet, ahead, many):
    """Whether the pictures from ahead on are those so many moments later, told from enough moments."""
    return all(picture_of(sheet, moment) == picture_of(sheet, moment + many) for moment in range(ahead, ahead + 400))
