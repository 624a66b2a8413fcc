"""[81], [82]: the deeds of a roll, and the sheet that they make."""

import unittest

from lanternrows import errors
from lanternrows.roll import Roll
from lanternrows.sheets import is_sheet
from tests import plain_roll, things
from tests.plain_roll import SOME, due_refusal, rolled, some_roll
from tests.things import FIGURES, refusal

RIGHT = (
    ("layer",), ("row", 0, 5, 7), ("row", 5, 0, 1), ("draw", 1, 9), ("hold", 2, 24), ("drop", 6), ("round", 2),
    ("straight", 5), ("move", -20, 20, 0), ("draw", 6, 0), ("hold", 6, 1), ("straight", 0), ("drop", 1), ("round", 6),
)


class Put(unittest.TestCase):
    def test_each_kind_and_its_number(self):
        roll = Roll()
        for number, deed in enumerate([
            ("layer",), ("row", 0, 1, 2), ("draw", 1, 9), ("hold", 1, 24), ("round", 1), ("straight", 0),
            ("move", -20, 20, 24), ("drop", 1), ("layer",), ("row", 8, 0, 1), ("move", 20, -20, 0),
        ]):
            self.assertEqual(things.in_kind(roll.put(deed)), [int, number])
        self.assertEqual(roll.standing()[1], (1, ("row", 0, 1, 2)))

    def test_each_right_deed(self):
        for deed in RIGHT:
            roll = some_roll()
            self.assertEqual(roll.put(deed), 10, deed)
            self.assertEqual(roll.standing()[-1], (10, deed))
            self.assertEqual(roll.sheet_now(), plain_roll.plain_sheet(roll.standing()))

    def test_each_bound(self):
        roll = some_roll()
        for drawing in range(-2, 13):
            due = None if 0 <= drawing <= 9 else errors.NoDeed
            self.assertIs(refusal(some_roll().put, ("row", 0, drawing, 1)), due)
            self.assertIs(refusal(roll.put, ("draw", 1, drawing)), due)
        for hold in range(-2, 28):
            due = None if 1 <= hold <= 24 else errors.NoDeed
            self.assertIs(refusal(some_roll().put, ("row", 0, 1, hold)), due)
            self.assertIs(refusal(roll.put, ("hold", 1, hold)), due)
        for way in range(-23, 24):
            due = None if -20 <= way <= 20 else errors.NoDeed
            self.assertIs(refusal(some_roll().put, ("move", way, 0, 1)), due)
            self.assertIs(refusal(some_roll().put, ("move", 0, way, 1)), due)
        for many in range(-2, 28):
            due = None if 0 <= many <= 24 else errors.NoDeed
            self.assertIs(refusal(some_roll().put, ("move", 0, 0, many)), due)

    def test_the_numbers_that_name_a_layer_and_those_that_name_a_row(self):
        for number in (*range(-3, 14), FIGURES, -FIGURES):
            for deed in (("row", number, 1, 1), ("straight", number)):
                self.assertIs(refusal(some_roll().put, deed), None if number in (0, 5) else errors.NoDeed, deed)
            for deed in (("draw", number, 1), ("hold", number, 1), ("drop", number), ("round", number)):
                self.assertIs(refusal(some_roll().put, deed), None if number in (1, 2, 6) else errors.NoDeed, deed)

    def test_a_row_is_gone_until_its_drop_is_undone(self):
        roll = rolled(("layer",), ("row", 0, 1, 1), ("drop", 1))
        for deed in (("draw", 1, 1), ("hold", 1, 1), ("drop", 1), ("round", 1)):
            self.assertIs(refusal(roll.put, deed), errors.NoDeed)
        roll.undo(2)
        for deed in (("draw", 1, 1), ("hold", 1, 1), ("round", 1), ("drop", 1)):
            self.assertIsNone(refusal(roll.put, deed))

    def test_nothing_is_named_in_a_roll_without_deeds(self):
        for number in (0, 1, -1):
            for deed in (
                ("row", number, 1, 1), ("draw", number, 1), ("hold", number, 1), ("drop", number), ("round", number),
                ("straight", number),
            ):
                self.assertIs(refusal(Roll().put, deed), errors.NoDeed)


class NoDeeds(unittest.TestCase):
    def refused_all(self, wrong):
        roll = some_roll()
        standing, sheet = roll.standing(), roll.sheet_now()
        for thing in wrong:
            self.assertIs(refusal(roll.put, thing), errors.NoDeed, thing)
        self.assertEqual((roll.standing(), roll.sheet_now()), (standing, sheet))
        self.assertEqual(roll.put(("layer",)), 10)

    def test_things_of_whatever_kind(self):
        self.refused_all(things.STRANGE + [None, (), 0, 1, "layer", things.ROW, things.LAYER, things.SHEET])

    def test_a_part_that_is_strange(self):
        for deed in RIGHT:
            self.refused_all(things.spoiled(deed))

    def test_truths(self):
        for deed in (
            ("row", False, 1, 1), ("row", 0, True, 1), ("row", 0, False, 1), ("row", 0, 1, True), ("draw", True, 1),
            ("draw", 1, True), ("draw", 1, False), ("hold", True, 1), ("hold", 1, True), ("drop", True),
            ("round", True), ("straight", False), ("move", True, 0, 0), ("move", 0, False, 0), ("move", 0, 0, True),
        ):
            self.refused_all([deed])

    def test_another_word(self):
        for deed in RIGHT:
            own = deed[0]
            for word in ("", "undo", "sheet", "at", own.upper(), own + " ", own + "\n", " " + own, own[:-1]):
                self.refused_all([(word,) + deed[1:]])
        self.refused_all([("row", 0), ("layer", 0), ("draw", 0), ("straight", 0, 1), ("move", 0, 0), ("drop", 1, 1)])

    def test_a_part_left_out_and_one_more(self):
        for deed in RIGHT:
            self.refused_all([deed[:-1], deed[1:], deed + (None,), deed + (0,), deed + (1,)])
            self.refused_all([("layer",) + deed, (deed,)])
            for at in range(1, len(deed)):
                self.refused_all([deed[:at] + deed[at + 1:]])

    def test_a_list_a_dict_a_text(self):
        for deed in RIGHT:
            row = " ".join(str(part) for part in deed)
            self.refused_all([list(deed), dict(enumerate(deed)), row, [deed], {deed[0]: 1}])

    def test_a_word_that_cannot_be_looked_up(self):
        self.refused_all([([],), ({},), (["layer"],), ([], 0, 1, 1), (("layer",),), ((),), ({}, 1)])


class TooMany(unittest.TestCase):
    def refused_with(self, roll, deed, many, most):
        before = (roll.standing(), roll.sheet_now())
        self.assertEqual(due_refusal(roll.put, deed), (errors.TooMany, many, most))
        self.assertEqual((roll.standing(), roll.sheet_now()), before)

    def test_layers(self):
        roll = rolled(*[("layer",)] * 4)
        self.refused_with(roll, ("layer",), 5, 4)
        roll.undo(2)
        self.assertEqual(roll.put(("layer",)), 4)
        self.refused_with(roll, ("layer",), 5, 4)

    def test_rows_of_each_layer(self):
        for full in range(4):
            roll = rolled(*[("layer",)] * 4, *[("row", full, 1, 1)] * 8)
            self.refused_with(roll, ("row", full, 1, 1), 9, 8)
            for layer in range(4):
                if layer != full:
                    self.assertEqual(due_refusal(roll.put, ("row", layer, 1, 1)), None)

    def test_rows_that_are_gone_do_not_count(self):
        roll = rolled(("layer",), *[("row", 0, 1, 1)] * 8)
        for row in (3, 8, 1):
            roll.put(("drop", row))
            number = roll.put(("row", 0, 2, 2))
            self.assertEqual(roll.standing()[-1], (number, ("row", 0, 2, 2)))
            self.refused_with(roll, ("row", 0, 1, 1), 9, 8)

    def test_moves(self):
        roll = rolled(*[("move", 0, 0, 0)] * 8)
        self.refused_with(roll, ("move", 0, 0, 0), 9, 8)
        roll.undo(0)
        self.assertEqual(roll.put(("move", 1, 1, 1)), 8)
        self.refused_with(roll, ("move", 0, 0, 0), 9, 8)

    def test_no_deed_goes_ahead(self):
        roll = rolled(*[("layer",)] * 4, *[("row", 1, 1, 1)] * 8, *[("move", 0, 0, 0)] * 8)
        for wrong in (
            ("layer", 1), ("layer", None), ["layer"], ("row", 1, 10, 1), ("row", 1, 1, 25), ("row", 1, 1, True),
            ("row", 1, 1), ("row", 1, 1, 1, 1), ("row", True, 1, 1), ("move", 21, 0, 0), ("move", 0, 0, 25),
            ("move", 0, 0), ["move", 0, 0, 0],
        ):
            self.assertIs(refusal(roll.put, wrong), errors.NoDeed, wrong)

    def test_what_is_refused_takes_no_number(self):
        roll = rolled(*[("layer",)] * 4)
        for turn in range(5):
            self.assertIs(refusal(roll.put, ("layer",)), errors.TooMany)
            self.assertIs(refusal(roll.put, ("drop", 0)), errors.NoDeed)
        self.assertEqual(roll.put(("row", 0, 1, 1)), 4)
        self.assertEqual(roll.put(("row", 0, 1, 1)), 5)

    def test_drawings_and_holds_without_end(self):
        roll = rolled(("layer",), ("row", 0, 1, 1))
        for turn in range(400):
            self.assertEqual(roll.put(("draw", 1, turn % 10)), 2 + 2 * turn)
            self.assertEqual(roll.put(("hold", 1, turn % 24 + 1)), 3 + 2 * turn)
        self.assertEqual(roll.sheet_now(), (((((9, 16),), None),), (0, 0, ())))
        self.assertEqual(len(roll.standing()), 802)


class SheetNow(unittest.TestCase):
    def shows(self, roll, *layers, moves=()):
        told = roll.sheet_now()
        self.assertEqual(things.in_kind(told), things.in_kind((layers, (0, 0, moves))))
        self.assertTrue(is_sheet(told))

    def test_no_layers(self):
        self.assertIsNone(Roll().sheet_now())
        roll = rolled(("move", 1, 1, 1))
        self.assertIsNone(roll.sheet_now())
        roll.put(("layer",))
        self.shows(roll, ((), None), moves=((1, 1, 1),))
        roll.undo(1)
        self.assertIsNone(roll.sheet_now())

    def test_layers_of_no_rows(self):
        for many in range(1, 5):
            self.shows(rolled(*[("layer",)] * many), *[((), None)] * many)
        self.shows(rolled(("layer",), ("straight", 0)), ((), None))

    def test_rows_stand_in_the_order_in_which_they_were_made(self):
        roll = rolled(("layer",), ("layer",), ("row", 1, 1, 1), ("row", 0, 2, 2), ("row", 1, 3, 3), ("row", 0, 4, 4))
        self.shows(roll, (((2, 2), (4, 4)), None), (((1, 1), (3, 3)), None))
        roll.put(("draw", 2, 9))
        roll.put(("hold", 3, 24))
        self.shows(roll, (((2, 24), (4, 4)), None), (((9, 1), (3, 3)), None))

    def test_the_last_drawing_and_the_last_hold_count(self):
        roll = rolled(("layer",), ("row", 0, 1, 1), ("draw", 1, 2), ("hold", 1, 3), ("draw", 1, 4), ("hold", 1, 5))
        self.shows(roll, (((4, 5),), None))

    def test_dropped_rows(self):
        roll = rolled(("layer",), ("row", 0, 1, 1), ("row", 0, 2, 2), ("row", 0, 3, 3), ("drop", 2))
        self.shows(roll, (((1, 1), (3, 3)), None))
        roll.put(("row", 0, 4, 4))
        self.shows(roll, (((1, 1), (3, 3), (4, 4)), None))
        roll.put(("drop", 1))
        roll.put(("drop", 3))
        roll.put(("drop", 5))
        self.shows(roll, ((), None))

    def test_rounds(self):
        roll = rolled(("layer",), ("row", 0, 1, 1), ("row", 0, 2, 2), ("row", 0, 3, 3), ("round", 2))
        rows = ((1, 1), (2, 2), (3, 3))
        self.shows(roll, (rows, 1))
        roll.put(("round", 3))
        self.shows(roll, (rows, 2))
        roll.put(("round", 1))
        self.shows(roll, (rows, 0))
        roll.put(("straight", 0))
        self.shows(roll, (rows, None))
        roll.put(("round", 3))
        self.shows(roll, (rows, 2))

    def test_the_number_of_the_row_falls_where_one_ahead_is_gone(self):
        roll = rolled(("layer",), ("row", 0, 1, 1), ("row", 0, 2, 2), ("row", 0, 3, 3), ("round", 3))
        self.shows(roll, (((1, 1), (2, 2), (3, 3)), 2))
        roll.put(("drop", 1))
        self.shows(roll, (((2, 2), (3, 3)), 1))
        roll.put(("drop", 2))
        self.shows(roll, (((3, 3),), 0))

    def test_a_round_whose_row_is_gone_gives_way_to_no_earlier_one(self):
        roll = rolled(("layer",), ("row", 0, 1, 1), ("row", 0, 2, 2), ("round", 1), ("round", 2), ("drop", 2))
        self.shows(roll, (((1, 1),), None))
        roll.put(("round", 1))
        self.shows(roll, (((1, 1),), 0))
        roll.undo(6)
        self.shows(roll, (((1, 1),), None))
        roll.undo(5)
        self.shows(roll, (((1, 1), (2, 2)), 1))

    def test_an_earlier_round_whose_row_is_gone_does_not_count(self):
        roll = rolled(("layer",), ("row", 0, 1, 1), ("row", 0, 2, 2), ("round", 1), ("round", 2), ("drop", 1))
        self.shows(roll, (((2, 2),), 0))

    def test_rounds_of_several_layers(self):
        roll = rolled(
            ("layer",), ("layer",), ("row", 0, 1, 1), ("row", 1, 2, 2), ("row", 1, 3, 3), ("round", 2), ("round", 4),
        )
        self.shows(roll, (((1, 1),), 0), (((2, 2), (3, 3)), 1))
        roll.put(("straight", 0))
        self.shows(roll, (((1, 1),), None), (((2, 2), (3, 3)), 1))
        roll.put(("straight", 1))
        self.shows(roll, (((1, 1),), None), (((2, 2), (3, 3)), None))

    def test_moves(self):
        roll = rolled(("move", 1, 2, 3), ("layer",), ("move", -20, 20, 0), ("move", 20, -20, 24))
        self.shows(roll, ((), None), moves=((1, 2, 3), (-20, 20, 0), (20, -20, 24)))
        roll.undo(2)
        self.shows(roll, ((), None), moves=((1, 2, 3), (20, -20, 24)))


class Standing(unittest.TestCase):
    def test_the_list(self):
        self.assertEqual(Roll().standing(), [])
        roll = some_roll()
        due = [(number, deed) for number, deed in enumerate(SOME) if number not in (8, 9)]
        self.assertEqual(things.in_kind(roll.standing()), things.in_kind(due))
        roll.put(("layer",))
        self.assertEqual(roll.standing(), due + [(10, ("layer",))])

    def test_it_is_new_each_time(self):
        for roll in (Roll(), some_roll()):
            first, second = roll.standing(), roll.standing()
            self.assertIsNot(first, second)
            kept, sheet = list(second), roll.sheet_now()
            first.append((99, ("layer",)))
            first.reverse()
            first[0] = None
            self.assertEqual(second, kept)
            self.assertEqual(roll.standing(), kept)
            second.clear()
            self.assertEqual(roll.standing(), kept)
            self.assertEqual(roll.sheet_now(), sheet)

    def test_what_is_told_may_be_handed_in_again(self):
        roll = rolled(("layer",), ("row", 0, 1, 1), ("draw", 1, 2), ("round", 1), ("move", 1, 2, 3))
        again = Roll()
        for number, deed in roll.standing():
            self.assertEqual(again.put(deed), number)
        self.assertEqual(again.sheet_now(), roll.sheet_now())

    def test_the_same_question_has_the_same_answer(self):
        roll = some_roll()
        for turn in range(3):
            self.assertEqual(roll.sheet_now(), plain_roll.plain_sheet(roll.standing()))
            self.assertEqual(roll.leaning(0), [1, 2, 3])


class MixedDeeds(unittest.TestCase):
    def test_against_what_is_read_off_the_standing_deeds(self):
        for seed in range(60):
            chance = plain_roll.seeded(seed)
            roll, standing, numbered = Roll(), [], 0
            for turn in range(120):
                deed = plain_roll.some_deed(chance, standing, numbered)
                due = plain_roll.plain_put(standing, deed)
                if due is None:
                    self.assertEqual(roll.put(deed), numbered)
                    standing.append((numbered, deed))
                    numbered += 1
                else:
                    self.assertEqual(due_refusal(roll.put, deed), due, (seed, deed))
                self.assertEqual(roll.standing(), standing)
                self.assertEqual(roll.sheet_now(), plain_roll.plain_sheet(standing), (seed, standing))
