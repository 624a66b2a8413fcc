"""[91]: sheets written as texts, and read again."""

import re
import unittest

from lanternrows import errors
from lanternrows.sheets import is_sheet
from lanternrows.texts import read_sheet, sheet_text
from tests import things
from tests.things import FIGURES, refusal

NUMBER = "(?:0|-?[1-9][0-9]*)"
WINDOW = re.compile(f"window ({NUMBER}) ({NUMBER})((?: {NUMBER},{NUMBER},{NUMBER})*)\n")
LAYER = re.compile(f"layer (-|{NUMBER})((?: {NUMBER}x{NUMBER})*)\n")


def plain_text(sheet):
    layers, (x, y, moves) = sheet
    text = f"window {x} {y}"
    for goal_x, goal_y, many in moves:
        text += f" {goal_x},{goal_y},{many}"
    text += "\n"
    for rows, back in layers:
        text += "layer -" if back is None else f"layer {back}"
        for drawing, hold in rows:
            text += f" {drawing}x{hold}"
        text += "\n"
    return text


def numbers(word, between):
    return tuple(int(part) for part in word.split(between))


def plain_read(text):
    """The sheet of a text, None where it has none."""
    found = WINDOW.match(text)
    if found is None:
        return None
    moves = tuple(numbers(word, ",") for word in found.group(3).split())
    window = (int(found.group(1)), int(found.group(2)), moves)
    layers = []
    at = found.end()
    while at < len(text):
        found = LAYER.match(text, at)
        if found is None:
            return None
        back = None if found.group(1) == "-" else int(found.group(1))
        layers.append((tuple(numbers(word, "x") for word in found.group(2).split()), back))
        at = found.end()
    sheet = (tuple(layers), window)
    return sheet if is_sheet(sheet) else None


PLAIN = "window -3 12 20,-20,24 0,0,0\nlayer 1 1x10 0x24\nlayer -\nlayer - 9x1\n"
SIGNS = "0129-+,x w_.~\n\t\r"


class Written(unittest.TestCase):
    def test_by_hand(self):
        sheet = (((((1, 10), (0, 24)), 1), ((), None), (((9, 1),), None)), (-3, 12, ((20, -20, 24), (0, 0, 0))))
        self.assertEqual(sheet_text(sheet), PLAIN)
        self.assertEqual(things.in_kind(read_sheet(PLAIN)), things.in_kind(sheet))

    def test_no_moves_and_no_rows(self):
        self.assertEqual(sheet_text(((((), None),), (0, 0, ()))), "window 0 0\nlayer -\n")
        self.assertEqual(read_sheet("window 0 0\nlayer -\n"), ((((), None),), (0, 0, ())))
        self.assertEqual(sheet_text(((((), None),) * 4, (-1, 20, ()))), "window -1 20\n" + "layer -\n" * 4)

    def test_backs(self):
        for many in range(1, 9):
            for back in range(many):
                sheet = (((((1, 2),) * many, back),), (0, 0, ()))
                self.assertEqual(sheet_text(sheet), f"window 0 0\nlayer {back}{' 1x2' * many}\n")
                self.assertEqual(read_sheet(sheet_text(sheet)), sheet)

    def test_numbers_below_nought(self):
        for x in range(-20, 21):
            sheet = ((((), None),), (x, -x, ((-x, x, 5),)))
            self.assertEqual(sheet_text(sheet), f"window {x} {-x} {-x},{x},5\nlayer -\n")
            self.assertEqual(read_sheet(sheet_text(sheet)), sheet)

    def test_read_again_it_is_the_sheet(self):
        longest = (((((9, 24),) * 8, 7),) * 4, (-20, -20, ((-20, -20, 24),) * 8))
        for sheet in things.some_sheets() + things.mixed_sheets(200) + [things.SHEET, longest]:
            text = sheet_text(sheet)
            self.assertIs(type(text), str)
            self.assertEqual(text, plain_text(sheet))
            self.assertEqual(things.in_kind(read_sheet(text)), things.in_kind(sheet))

    def test_no_sheet(self):
        for thing in things.wrong_sheets():
            self.assertIs(refusal(sheet_text, thing), errors.NoSheet, thing)


class NoTexts(unittest.TestCase):
    def read_as_it_should(self, text):
        due = plain_read(text)
        if due is None:
            self.assertIs(refusal(read_sheet, text), errors.NoText, repr(text))
        else:
            self.assertEqual(things.in_kind(read_sheet(text)), things.in_kind(due))
            self.assertEqual(sheet_text(due), text)

    def refused_all(self, texts):
        for text in texts:
            self.assertIsNone(plain_read(text), repr(text))
            self.assertIs(refusal(read_sheet, text), errors.NoText, repr(text))

    def test_a_sign_left_out(self):
        for text in [PLAIN] + [plain_text(sheet) for sheet in things.mixed_sheets(12)]:
            for at in range(len(text)):
                self.read_as_it_should(text[:at] + text[at + 1:])

    def test_a_sign_put_in(self):
        for at in range(len(PLAIN) + 1):
            for sign in SIGNS:
                self.read_as_it_should(PLAIN[:at] + sign + PLAIN[at:])

    def test_a_sign_exchanged(self):
        for at in range(len(PLAIN)):
            for sign in SIGNS + "34678W":
                self.read_as_it_should(PLAIN[:at] + sign + PLAIN[at + 1:])
        for at in range(len(PLAIN) - 1):
            self.read_as_it_should(PLAIN[:at] + PLAIN[at + 1] + PLAIN[at] + PLAIN[at + 2:])

    def test_a_piece_left_out(self):
        for at in range(len(PLAIN)):
            for end in range(at, len(PLAIN) + 1):
                self.read_as_it_should(PLAIN[:at] + PLAIN[end:])

    def test_numbers_that_are_not_written_so(self):
        for number in (
            "00", "01", "-0", "+0", "+1", "-01", "--1", "1-", "- 1", "", "-", "1_0", "0x1", "1.0", "a", "1e1",
        ):
            self.refused_all([
                f"window {number} 0\nlayer -\n", f"window 0 {number}\nlayer -\n", f"window 0 0 {number},0,0\nlayer -\n",
                f"window 0 0 0,{number},0\nlayer -\n", f"window 0 0 0,0,{number}\nlayer -\n",
                f"window 0 0\nlayer - {number}x1\n", f"window 0 0\nlayer - 1x{number}\n",
            ])
            if number != "-":
                self.refused_all([f"window 0 0\nlayer {number} 1x1 1x1\n"])

    def test_figures_that_are_not_those_of_the_document(self):
        # Python takes these for figures, too.
        for number in ("\u0661", "\uff11", "\u00b2", "1\u0661"):
            self.refused_all([f"window {number} 0\nlayer -\n", f"window 0 0\nlayer - 1x{number}\n"])

    def test_blanks(self):
        self.refused_all([
            "window  0 0\nlayer -\n", "window 0  0\nlayer -\n", "window 0 0 \nlayer -\n", " window 0 0\nlayer -\n",
            "window 0 0\n layer -\n", "window 0 0\nlayer - \n", "window 0 0\nlayer  -\n", "window 0 0\nlayer -\n ",
            "window 0 0  1,1,1\nlayer -\n", "window 0 0 1,1,1 \nlayer -\n", "window 0 0 1, 1,1\nlayer -\n",
            "window 0 0\nlayer -  1x1\n", "window 0 0\nlayer - 1x1 \n", "window 0 0\nlayer - 1 x1\n",
            "window 0 0\nlayer -1x1\n", "window 0 01,1,1\nlayer -\n", "window00\nlayer -\n", "window 00\nlayer -\n",
        ])

    def test_line_ends_and_tabs(self):
        self.refused_all([
            "window 0 0\nlayer -", "window 0 0\nlayer -\n\n", "window 0 0\n\nlayer -\n", "\nwindow 0 0\nlayer -\n",
            "window 0 0\r\nlayer -\r\n", "window 0 0\rlayer -\r", "window 0 0\nlayer -\r\n", "window 0 0\r\nlayer -\n",
            "window 0 0\n\rlayer -\n", "window\t0 0\nlayer -\n", "window 0\t0\nlayer -\n", "window 0 0\nlayer\t-\n",
            "window 0 0\nlayer -\t1x1\n", "window 0 0\t\nlayer -\n", "window 0 0 layer -\n", "window 0 0\x0blayer -\n",
            "window 0 0\x0clayer -\n", "window 0 0\x85layer -\n", "window 0 0\nlayer -\nwindow 0 0\n",
            "window 0\n0\nlayer -\n", "window 0 0\nlayer\n-\n", "window 0 0\nlayer -\n1x1\n",
        ])

    def test_numbers_beyond_their_bounds_and_of_many_figures(self):
        many = ["25", "99", "100", "10" * 15, "9" * 30, "9" * 31, "9" * 200, "1" * 590, "-1", "-21", "-" + "9" * 500]
        for number in many:
            self.refused_all([f"window 0 0\nlayer - 1x{number}\n", f"window 0 0 0,0,{number}\nlayer -\n"])
        for number in many + ["10", "24"]:
            self.refused_all([f"window 0 0\nlayer - {number}x1\n"])
        for number in many[:-4] + ["-21", "21", "-20" + "0" * 300]:
            self.refused_all([
                f"window {number} 0\nlayer -\n", f"window 0 {number}\nlayer -\n", f"window 0 0 {number},0,0\nlayer -\n",
                f"window 0 0 0,{number},0\nlayer -\n",
            ])
        for number in many + ["1", "2", "8"]:
            self.refused_all([f"window 0 0\nlayer {number} 1x1\n", f"window 0 0\nlayer {number}\n"])
        self.refused_all(["window 0 0\nlayer 0\n", "window 0 0\nlayer - 1x0\n"])

    def test_numbers_of_thousands_of_figures(self):
        for number in ("9" * 5000, "-" + "9" * 5000):
            for text in (f"window {number} 0\nlayer -\n", f"window 0 0\nlayer {number} 1x{number}\n"):
                self.assertIs(refusal(read_sheet, text), errors.NoText)

    def test_how_many_there_may_be(self):
        for many in range(8):
            due = None if 1 <= many <= 4 else errors.NoText
            self.assertIs(refusal(read_sheet, "window 0 0\n" + "layer - 1x1\n" * many), due)
        for many in range(12):
            due = None if many <= 8 else errors.NoText
            self.assertIs(refusal(read_sheet, "window 0 0\nlayer -" + " 1x1" * many + "\n"), due)
            self.assertIs(refusal(read_sheet, "window 0 0" + " 1,1,1" * many + "\nlayer -\n"), due)

    def test_rows_and_moves_of_another_size(self):
        for word in ("1", "1x", "x1", "x", "1x1x1", "1xx1", "1,1", "1X1", "1*1", "1x1,1x1", "(1, 1)"):
            self.refused_all([f"window 0 0\nlayer - {word}\n"])
        for word in ("1", "1,1", "1,1,1,1", "1,1,", ",1,1", "1,,1", ",,", "1x1x1", "1;1;1", "1,1x1"):
            self.refused_all([f"window 0 0 {word}\nlayer -\n"])

    def test_other_words_and_words_left_out(self):
        self.refused_all([
            "", "\n", "\n\n", "window\n", "layer\n", "layer -\n", "window 0 0\n", "window 0 0", "window 0\nlayer -\n",
            "window\nlayer -\n", "window 0 0\nlayer\n", "window 0 0\nlayer", "layer -\nwindow 0 0\n",
            "Window 0 0\nlayer -\n",
            "WINDOW 0 0\nlayer -\n", "window 0 0\nLayer -\n", "window 0 0\nlayers -\n", "0 0\nlayer -\n",
            "window 0 0\n-\n", "window 0 0\nwindow 0 0\nlayer -\n", "window 0 0\nlayer None\n", "window 0 0\nlayer x\n",
            "window 0 0\nlayer --\n", "window 0 0\nlayer 1x1\n", "window 0 0\nlayer x 1x1\n",
            "window 0 0\nlayer  1x1\n",
            "-", "none", "~" * 600, " " * 600, "\n" * 600, "window 0 0\n" * 50, "layer -\n" * 70,
        ])

    def test_things_that_are_no_text(self):
        for thing in things.STRANGE + [None, (), 0, things.SHEET, things.LAYER, [PLAIN], (PLAIN,), {PLAIN: PLAIN}]:
            self.assertIs(refusal(read_sheet, thing), errors.NoText)
        for thing in (FIGURES, b"window 0 0\nlayer -\n", PLAIN.split("\n")):
            self.assertIs(refusal(read_sheet, thing), errors.NoText)

    def test_the_same_text_has_the_same_sheet(self):
        first = read_sheet(PLAIN)
        refusal(read_sheet, PLAIN + "\n")
        self.assertEqual(read_sheet(PLAIN), first)
