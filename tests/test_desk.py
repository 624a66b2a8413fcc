"""[92]: a desk that keeps a roll and is told rows."""

import re
import unittest

from lanternrows import errors
from lanternrows.desk import Desk
from lanternrows.pictures import picture_at
from lanternrows.roll import Roll
from lanternrows.sheets import sheet_length
from lanternrows.texts import read_sheet, sheet_text
from tests import plain_roll, things
from tests.plain_roll import due_refusal
from tests.things import GREAT, refusal

QUESTIONS = ("sheet", "length", "at 0", "at 5")


def told(*rows):
    """A desk that was told these rows."""
    desk = Desk()
    for row in rows:
        desk.tell(row)
    return desk


def row_of(deed):
    return " ".join(str(part) for part in deed)


def state(desk):
    """All that the questions tell of a desk."""
    answers = [desk.tell(row) for row in QUESTIONS]
    return answers + [things.outcome(desk.tell, f"leans {number}") for number in range(12)]


def plain_picture(sheet, moment):
    drawings, ((x, x_bottom), (y, y_bottom)) = picture_at(sheet, moment)
    return f"{' '.join(str(drawing) for drawing in drawings)} at {x}/{x_bottom} {y}/{y_bottom}"


SOME = ("layer", "row 0 1 2", "row 0 3 4", "round 2", "move 3 -4 5", "layer", "row 5 7 1", "draw 2 8")
RIGHT = (
    "layer", "row 0 1 2", "draw 1 9", "hold 1 24", "drop 1", "round 1", "straight 5", "move -20 20 0", "undo 7",
    "sheet", "length", "at 7", "leans 0",
)


class Deeds(unittest.TestCase):
    def test_each_row_is_answered_with_its_number(self):
        desk = Desk()
        for number, row in enumerate((
            "layer", "row 0 1 2", "row 0 3 4", "draw 1 9", "hold 1 24", "round 2", "straight 0", "drop 2",
            "move -20 20 24", "layer", "move 20 -20 0",
        )):
            answer = desk.tell(row)
            self.assertEqual(things.in_kind(answer), [str, str(number)])
        self.assertEqual(desk.tell("sheet"), "window 0 0 -20,20,24 20,-20,0\nlayer - 9x24\nlayer -\n")

    def test_undo(self):
        desk = told(*SOME)
        self.assertEqual(desk.tell("undo 7"), "ok")
        self.assertEqual(desk.tell("sheet"), "window 0 0 3,-4,5\nlayer 1 1x2 3x4\nlayer - 7x1\n")
        self.assertEqual(desk.tell("undo 3"), "ok")
        self.assertEqual(desk.tell("sheet"), "window 0 0 3,-4,5\nlayer - 1x2 3x4\nlayer - 7x1\n")
        self.assertEqual(desk.tell("undo 4"), "ok")
        self.assertEqual(desk.tell("sheet"), "window 0 0\nlayer - 1x2 3x4\nlayer - 7x1\n")
        self.assertEqual(desk.tell("layer"), "8")

    def test_refused_as_a_roll_refuses_them(self):
        desk = told(*SOME)
        before = state(desk)
        for row in (
            "row 1 1 1", "row 0 10 1", "row 0 1 25", "row 0 1 0", "row 0 -1 1", "row 9 1 1", "row -1 1 1", "draw 0 1",
            "draw 1 10", "hold 1 25", "hold 1 0", "hold 4 1", "drop 0", "drop 8", "round 0", "round -1", "straight 1",
            "straight 8", "move 21 0 0", "move 0 -21 0", "move 0 0 25", "move 0 0 -1", "drop " + "9" * 30,
            "move " + "-" + "9" * 30 + " 0 0",
        ):
            self.assertIs(refusal(desk.tell, row), errors.NoDeed, row)
        for row in ("undo 8", "undo -1", "undo " + "9" * 30, "leans 8", "leans -1", "leans -" + "9" * 30):
            self.assertIs(refusal(desk.tell, row), errors.NoNumber, row)
        for row, numbers in (("undo 0", (1, 2)), ("undo 2", (3, 7)), ("undo 5", (6,))):
            self.assertEqual(due_refusal(desk.tell, row), (errors.Leaned, numbers))
        self.assertEqual(state(desk), before)
        self.assertEqual(desk.tell("layer"), "8")

    def test_too_many(self):
        desk = told(*["layer"] * 4, *["row 2 1 1"] * 8, *["move 1 1 1"] * 8)
        before = state(desk)
        self.assertEqual(due_refusal(desk.tell, "layer"), (errors.TooMany, 5, 4))
        self.assertEqual(due_refusal(desk.tell, "row 2 1 1"), (errors.TooMany, 9, 8))
        self.assertEqual(due_refusal(desk.tell, "move 1 1 1"), (errors.TooMany, 9, 8))
        self.assertIs(refusal(desk.tell, "row 2 1 25"), errors.NoDeed)
        self.assertIs(refusal(desk.tell, "layer 1"), errors.NoWords)
        self.assertEqual(state(desk), before)
        self.assertEqual(desk.tell("drop 6"), "20")
        self.assertEqual(desk.tell("row 2 1 1"), "21")
        self.assertEqual(due_refusal(desk.tell, "undo 20"), (errors.TooMany, 9, 8))

    def test_without_any_layer(self):
        desk = Desk()
        for row in ("row 0 1 1", "draw 0 1", "hold 0 1", "drop 0", "round 0", "straight 0"):
            self.assertIs(refusal(desk.tell, row), errors.NoDeed)
        for row in ("undo 0", "leans 0"):
            self.assertIs(refusal(desk.tell, row), errors.NoNumber)
        self.assertEqual(desk.tell("move 1 1 1"), "0")


class Questions(unittest.TestCase):
    def test_with_no_layer_yet(self):
        for desk in (Desk(), told("move 1 1 1"), told("layer", "undo 0")):
            for row in ("sheet", "length", "at 0", "at 1000000000"):
                self.assertEqual(desk.tell(row), "-")

    def test_sheet(self):
        desk = told(*SOME)
        self.assertEqual(desk.tell("sheet"), "window 0 0 3,-4,5\nlayer 1 1x2 8x4\nlayer - 7x1\n")
        self.assertEqual(read_sheet(desk.tell("sheet"))[0][1], (((7, 1),), None))
        self.assertEqual(told("layer").tell("sheet"), "window 0 0\nlayer -\n")

    def test_length(self):
        self.assertEqual(told("layer").tell("length"), "0")
        self.assertEqual(told("layer", "row 0 1 7").tell("length"), "7")
        self.assertEqual(told("layer", "row 0 1 7", "move 0 0 24").tell("length"), "24")
        self.assertEqual(told(*SOME).tell("length"), "endless")
        self.assertEqual(told(*SOME, "straight 0").tell("length"), "6")
        self.assertEqual(told(*SOME, "drop 2").tell("length"), "5")

    def test_at(self):
        desk = told(*SOME)
        self.assertEqual(desk.tell("at 0"), "1 7 at 3/5 -4/5")
        self.assertEqual(desk.tell("at 1"), "1 0 at 6/5 -8/5")
        self.assertEqual(desk.tell("at 4"), "8 0 at 3/1 -4/1")
        self.assertEqual(desk.tell("at 1000000000"), "8 0 at 3/1 -4/1")
        self.assertEqual(told("layer").tell("at 0"), "0 at 0/1 0/1")
        self.assertEqual(told(*["layer"] * 4, "row 1 9 2").tell("at 1"), "0 9 0 0 at 0/1 0/1")

    def test_at_what_is_no_moment(self):
        for desk in (Desk(), told("move 1 1 1"), told(*SOME)):
            for moment in (GREAT + 1, GREAT * 2, 10 ** 30 - 1, -1, -GREAT, -(10 ** 30 - 1)):
                self.assertIs(refusal(desk.tell, f"at {moment}"), errors.NoMoment)
            self.assertIsNone(refusal(desk.tell, f"at {GREAT}"))

    def test_leans(self):
        desk = told(*SOME)
        answers = [desk.tell(f"leans {number}") for number in range(8)]
        self.assertEqual(answers, ["1 2", "none", "3 7", "none", "none", "6", "none", "none"])

    def test_a_question_changes_nothing(self):
        desk = told(*SOME)
        first = state(desk)
        self.assertEqual(state(desk), first)
        self.assertEqual(desk.tell("layer"), "8")


class NoWords(unittest.TestCase):
    def refused_all(self, wrong):
        desk = told(*SOME)
        before = state(desk)
        for row in wrong:
            self.assertIs(refusal(desk.tell, row), errors.NoWords, repr(row))
            self.assertIs(refusal(Desk().tell, row), errors.NoWords, repr(row))
        self.assertEqual(state(desk), before)
        self.assertEqual(desk.tell("layer"), "8")

    def test_the_right_ones_are_not(self):
        for row in RIGHT:
            self.assertIsNone(refusal(told(*SOME).tell, row), row)

    def test_a_word_more_and_a_word_left_out(self):
        for row in RIGHT:
            self.refused_all([row + " 0", row + " 1", row + " x", row + " layer", "0 " + row, row + " " + row])
            words = row.split(" ")
            for at in range(len(words)):
                self.refused_all([" ".join(words[:at] + words[at + 1:])])

    def test_blanks_line_ends_and_tabs(self):
        for row in RIGHT:
            self.refused_all([row + " ", " " + row, row + "\n", "\n" + row, row + "\t", "\t" + row, row + "\r"])
            for at, sign in enumerate(row):
                if sign == " ":
                    for other in ("  ", "\t", "\n", "", ",", " \n", "_"):
                        self.refused_all([row[:at] + other + row[at + 1:]])

    def test_another_case_and_other_words(self):
        for row in RIGHT:
            self.refused_all([row.upper(), row.capitalize(), "x" + row, row[1:], "-" + row, "+" + row])
        self.refused_all(["", " ", "  ", "0", "-", "ok", "none", "standing", "put layer", "window 0 0", "at at"])

    def test_numbers_that_are_not_written_so(self):
        wrong = ("00", "01", "-0", "+0", "+1", "-01", "--1", "1-", "", "-", "1_0", "0x1", "1.0", "x", "one", "None")
        wrong += ("True", "9" * 31, "-" + "9" * 31, "1" + "0" * 30, "9" * 190)
        for row in RIGHT:
            words = row.split(" ")
            for at in range(1, len(words)):
                for number in wrong:
                    self.refused_all([" ".join(words[:at] + [number] + words[at + 1:])])

    def test_numbers_of_thousands_of_figures(self):
        self.refused_all(["at " + "9" * 5000, "drop -" + "9" * 5000])

    def test_figures_that_are_not_those_of_the_document(self):
        self.refused_all(["at \u0661", "at \uff11", "at \u00b2"])

    def test_numbers_of_thirty_figures(self):
        for row, due in (
            ("at {}", errors.NoMoment), ("undo {}", errors.NoNumber), ("leans {}", errors.NoNumber),
            ("row {} 1 1", errors.NoDeed), ("row 0 {} 1", errors.NoDeed), ("move 0 0 {}", errors.NoDeed),
        ):
            for number in ("9" * 30, "-" + "9" * 30, "1" + "0" * 29):
                self.assertIs(refusal(told(*SOME).tell, row.format(number)), due)

    def test_ahead_of_all_else(self):
        full = told(*["layer"] * 4)
        for row in (
            "layer ", "row 9 99 099", "row 9 99", "undo 99 ", "at 9999999999 ", "at -0", "leans 99 99", "draw 0 -0",
        ):
            self.assertIs(refusal(full.tell, row), errors.NoWords)

    def test_things_that_are_no_text(self):
        self.refused_all([thing for thing in things.STRANGE if not isinstance(thing, str)])
        self.refused_all([None, (), 0, 1, ("layer",), ["layer"], {"layer": 1}, ("row", 0, 1, 1), b"layer"])
        self.refused_all([thing for thing in things.STRANGE if isinstance(thing, str)])

    def test_signs_put_in_left_out_and_exchanged(self):
        numbers = {
            "layer": 0, "row": 3, "draw": 2, "hold": 2, "drop": 1, "round": 1, "straight": 1, "move": 3, "undo": 1,
            "sheet": 0, "length": 0, "at": 1, "leans": 1,
        }
        number = "(0|-?[1-9][0-9]{0,29})"
        rows = re.compile("|".join(f"{word}(?: {number}){{{many}}}" for word, many in numbers.items()))
        seen = {True: 0, False: 0}
        for row in RIGHT:
            spoiled = [row[:at] + row[at + 1:] for at in range(len(row))]
            for sign in "0129-+ xa\n\t":
                spoiled += [row[:at] + sign + row[at:] for at in range(len(row) + 1)]
                spoiled += [row[:at] + sign + row[at + 1:] for at in range(len(row))]
            for other in spoiled:
                right = rows.fullmatch(other) is not None
                seen[right] += 1
                self.assertIs(refusal(told(*SOME).tell, other) is not errors.NoWords, right, repr(other))
        self.assertTrue(min(seen.values()) > 50)


class MixedRows(unittest.TestCase):
    def test_against_a_roll(self):
        for seed in range(40):
            chance = plain_roll.seeded(1000 + seed)
            desk, roll, numbered = Desk(), Roll(), 0
            for turn in range(80):
                if chance.random() < 0.3:
                    number = chance.randint(-1, numbered)
                    due = due_refusal(roll.undo, number)
                    self.told_or_refused(desk, f"undo {number}", due, "ok")
                else:
                    deed = plain_roll.some_deed(chance, roll.standing(), numbered)
                    due = due_refusal(roll.put, deed)
                    self.told_or_refused(desk, row_of(deed), due, str(numbered))
                    numbered += due is None
                self.same(desk, roll, chance)

    def told_or_refused(self, desk, row, due, answer):
        if due is None:
            self.assertEqual(desk.tell(row), answer)
        else:
            self.assertEqual(due_refusal(desk.tell, row), due, row)

    def same(self, desk, roll, chance):
        sheet = roll.sheet_now()
        moment = chance.choice((0, 1, 2, chance.randint(0, 99), chance.randint(0, GREAT)))
        if sheet is None:
            self.assertEqual([desk.tell(row) for row in ("sheet", "length", f"at {moment}")], ["-"] * 3)
        else:
            length = sheet_length(sheet)
            self.assertEqual(desk.tell("sheet"), sheet_text(sheet))
            self.assertEqual(desk.tell("length"), "endless" if length is None else str(length))
            self.assertEqual(desk.tell(f"at {moment}"), plain_picture(sheet, moment))
        for number, deed in roll.standing()[::6]:
            leaning = roll.leaning(number)
            self.assertEqual(desk.tell(f"leans {number}"), " ".join(str(it) for it in leaning) or "none")


class SideBySide(unittest.TestCase):
    def test_two_desks(self):
        one, other = Desk(), Desk()
        self.assertEqual(one.tell("layer"), "0")
        self.assertEqual(other.tell("sheet"), "-")
        self.assertEqual(other.tell("move 1 1 1"), "0")
        self.assertEqual(one.tell("row 0 1 1"), "1")
        self.assertEqual(other.tell("layer"), "1")
        self.assertEqual(one.tell("sheet"), "window 0 0\nlayer - 1x1\n")
        self.assertEqual(other.tell("sheet"), "window 0 0 1,1,1\nlayer -\n")
        self.assertEqual(one.tell("undo 1"), "ok")
        self.assertEqual(other.tell("leans 1"), "none")
        self.assertIs(refusal(other.tell, "row 0 1 1"), errors.NoDeed)
