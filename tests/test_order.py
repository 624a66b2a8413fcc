"""[4], [5]: from laying to texts, the leftmost wrong thing is refused first; nothing is changed."""

import copy
import unittest
from itertools import combinations

from lanternrows import errors, forever, joining, laying, plates, texts, timing
from tests import things
from tests.things import refusal

STRAIGHT = (((1, 2), (0, 4), (9, 1)), None)
SHORT = ((STRAIGHT,), (0, 0, ((1, 1, 3),)))
LAYERS = (errors.NoLayer, things.wrong_layers(), STRAIGHT)
SHEETS = (errors.NoSheet, things.wrong_sheets(), SHORT)
MANIES = (errors.NoNumber, things.WRONG_MANIES, 10)
TIMES = (errors.NoNumber, things.WRONG_TIMES, 10)
LAYER_NUMBERS = (errors.NoNumber, things.WRONG_NUMBERS + [1, 2, 4], 0)
ROW_NUMBERS = (errors.NoNumber, things.WRONG_NUMBERS + [3, 4, 8], 2)
ROWS = (errors.NoRow, things.WRONG_ROWS + things.STRANGE, (9, 24))
PAPERS = (errors.NoPaper, things.STRANGE + [None, (), 0, (("made", 0),) * 9], tuple(("kept", at) for at in range(10)))

# Each function with, for each of its places, the refusal that is told for it, what is wrong there, and what is right.
ASKED = [
    (laying.laid, LAYERS, MANIES),
    (laying.folded, (errors.NoDrawings, things.wrong_drawings(), [1, 1, 2])),
    (forever.least_round, LAYERS),
    (forever.sheet_round, SHEETS),
    (forever.parting, SHEETS, SHEETS),
    (forever.are_alike, SHEETS, SHEETS),
    (joining.behind, SHEETS, SHEETS),
    (joining.beside, SHEETS, SHEETS),
    (timing.evened, LAYERS, TIMES),
    (timing.retimed, LAYERS, TIMES),
    (timing.sheet_retimed, SHEETS, TIMES),
    (plates.plates, SHEETS, MANIES),
    (plates.changed, SHEETS, LAYER_NUMBERS, ROW_NUMBERS, ROWS),
    (plates.least_paper, SHEETS, SHEETS, MANIES),
    (plates.made_by, SHEETS, SHEETS, MANIES, PAPERS),
    (texts.sheet_text, SHEETS),
    (texts.read_sheet, (errors.NoText, things.STRANGE + [None, (), 0, "window 0 0\n"], "window 0 0\nlayer -\n")),
]


def right(places):
    return [good for due, wrong, good in places]


class Refused(unittest.TestCase):
    def test_what_is_right_is_not(self):
        for asked, *places in ASKED:
            self.assertIsNone(refusal(asked, *right(places)), asked.__name__)

    def test_each_wrong_thing_by_its_own_class(self):
        for asked, *places in ASKED:
            for at, (due, wrong, good) in enumerate(places):
                handed = right(places)
                for thing in wrong:
                    handed[at] = thing
                    self.assertIs(refusal(asked, *handed), due, (asked.__name__, at, thing))

    def test_of_two_wrong_things_the_leftmost(self):
        for asked, *places in ASKED:
            for first, second in combinations(range(len(places)), 2):
                handed = right(places)
                for one in places[first][1][::41]:
                    for other in places[second][1][::29]:
                        handed[first], handed[second] = one, other
                        self.assertIs(refusal(asked, *handed), places[first][0], (asked.__name__, one, other))

    def test_where_all_is_wrong_the_leftmost(self):
        for asked, *places in ASKED:
            for turn in range(0, 300, 7):
                handed = [wrong[turn % len(wrong)] for due, wrong, good in places]
                self.assertIs(refusal(asked, *handed), places[0][0], (asked.__name__, handed))

    def test_is_round_refuses_no_layer_whatever_the_thing(self):
        for wrong in things.wrong_layers():
            for thing in ((0, 1), None):
                self.assertIs(refusal(forever.is_round, wrong, thing), errors.NoLayer, wrong)
        for wrong in things.wrong_layers()[::30]:
            for thing in things.STRANGE:
                self.assertIs(refusal(forever.is_round, wrong, thing), errors.NoLayer)

    def test_is_paper_refuses_what_stands_ahead_of_the_thing_whatever_it_is(self):
        for thing in things.STRANGE + [None, (), PAPERS[2]]:
            for wrong in things.wrong_sheets()[::60]:
                self.assertIs(refusal(plates.is_paper, wrong, SHORT, 10, thing), errors.NoSheet)
                self.assertIs(refusal(plates.is_paper, SHORT, wrong, 10, thing), errors.NoSheet)
                self.assertIs(refusal(plates.is_paper, SHORT, wrong, 201, thing), errors.NoSheet)
            for wrong in things.WRONG_MANIES:
                self.assertIs(refusal(plates.is_paper, SHORT, SHORT, wrong, thing), errors.NoNumber)

    def test_the_ends_of_the_numbers(self):
        for many in (0, 1, 200):
            self.assertIsNone(refusal(laying.laid, STRAIGHT, many))
            self.assertIsNone(refusal(plates.plates, SHORT, many))
            self.assertIsNone(refusal(plates.least_paper, SHORT, SHORT, many))
        eight = (((1, 24),) * 8, None)
        sheet = ((eight,), (0, 0, ()))
        for asked, thing in ((timing.evened, eight), (timing.retimed, eight), (timing.sheet_retimed, sheet)):
            self.assertIs(refusal(asked, thing, 0), errors.NoNumber)
            self.assertIs(refusal(asked, thing, 1), errors.Squeezed)
            self.assertIs(refusal(asked, thing, 200), errors.TooMany)
            self.assertIs(refusal(asked, thing, 201), errors.NoNumber)

    def test_what_hangs_on_several_things_goes_behind(self):
        endless = ((things.LAYER,) * 3, (0, 0, ()))
        for asked in (forever.parting, forever.are_alike, joining.behind):
            self.assertIs(refusal(asked, endless, SHORT), errors.Unlike)
            self.assertIs(refusal(asked, endless, (endless[0], None)), errors.NoSheet)
            self.assertIs(refusal(asked, (endless[0], None), SHORT), errors.NoSheet)
        self.assertIs(refusal(joining.behind, endless, endless), errors.Endless)
        self.assertIs(refusal(joining.beside, endless, endless), errors.TooMany)
        self.assertIs(refusal(joining.beside, endless, (endless[0], None)), errors.NoSheet)
        self.assertIs(refusal(timing.sheet_retimed, endless, 0), errors.NoNumber)
        self.assertIs(refusal(timing.sheet_retimed, endless, 1), errors.Endless)


class Unchanged(unittest.TestCase):
    def stays(self, asked, *handed):
        before = copy.deepcopy(handed)
        first = things.outcome(asked, *handed)
        self.assertEqual(things.in_kind(handed), things.in_kind(before), asked.__name__)
        self.assertEqual(things.in_kind(things.outcome(asked, *handed)), things.in_kind(first), asked.__name__)

    def test_what_is_wrong_stays_as_it_was(self):
        for asked, *places in ASKED:
            for at, (due, wrong, good) in enumerate(places):
                handed = right(places)
                for thing in wrong[::7]:
                    handed[at] = thing
                    self.stays(asked, *handed)

    def test_what_is_right_stays_as_it_was_and_has_the_same_answer(self):
        for sheet in things.some_sheets() + things.mixed_sheets(40):
            straight = things.straight(sheet)
            layer = sheet[0][0]
            for asked, *handed in (
                (laying.laid, layer, 30), (laying.folded, things.plain_drawings(layer, 30)),
                (forever.least_round, layer), (forever.is_round, layer, (3, 4)), (forever.is_round, layer, [3, 4]),
                (forever.sheet_round, sheet), (forever.parting, sheet, straight), (forever.are_alike, sheet, straight),
                (joining.behind, straight, sheet), (joining.beside, sheet, straight),
                (timing.evened, straight[0][0], 30), (timing.retimed, straight[0][0], 30),
                (timing.sheet_retimed, straight, 30), (plates.plates, sheet, 30), (plates.changed, sheet, 0, 0, (9, 1)),
                (plates.least_paper, sheet, straight, 30), (plates.is_paper, sheet, straight, 1, (("made", 0),)),
                (plates.is_paper, sheet, straight, 1, [("made", 0)]),
                (plates.is_paper, sheet, straight, 1, (["made", 0],)),
                (plates.made_by, sheet, straight, 1, (("made", 0),)),
                (plates.made_by, sheet, straight, 1, [["made", 0]]),
                (texts.sheet_text, sheet), (texts.read_sheet, texts.sheet_text(sheet)), (texts.read_sheet, [sheet]),
            ):
                self.stays(asked, *handed)
