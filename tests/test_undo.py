"""[83]: which deeds lean on one, and deeds undone."""

import unittest

from lanternrows import errors
from lanternrows.roll import Roll
from tests import plain_roll, things
from tests.plain_roll import due_refusal, rolled, some_roll
from tests.things import FIGURES, refusal

NO_NUMBERS = things.WRONG_NUMBERS + [-1, -2, 8, 9, 10, 11, 1000, "0", "1", (0,), [0], {0: 0}]


class Leaning(unittest.TestCase):
    def test_by_hand(self):
        roll = rolled(
            ("layer",), ("row", 0, 1, 1), ("draw", 1, 2), ("row", 0, 3, 3), ("hold", 1, 4), ("round", 3), ("drop", 1),
            ("straight", 0), ("move", 0, 1, 3), ("layer",), ("row", 9, 0, 1),
        )
        due = {0: [1, 3, 7], 1: [2, 4, 6], 3: [5], 9: [10]}
        for number in range(11):
            self.assertEqual(things.in_kind(roll.leaning(number)), things.in_kind(due.get(number, [])), number)

    def test_a_deed_leans_on_what_made_what_it_names_and_on_nothing_further(self):
        roll = rolled(("layer",), ("row", 0, 1, 1), ("draw", 1, 2))
        self.assertEqual(roll.leaning(0), [1])
        self.assertEqual(roll.leaning(1), [2])
        self.assertEqual(roll.leaning(2), [])

    def test_a_move_leans_on_nothing_whatever_its_numbers(self):
        roll = rolled(("layer",), ("move", 0, 1, 2), ("row", 0, 0, 1), ("move", 2, 2, 2), ("draw", 2, 0))
        self.assertEqual([roll.leaning(number) for number in range(5)], [[2], [], [4], [], []])

    def test_what_is_undone_leans_no_more(self):
        roll = rolled(("layer",), ("row", 0, 1, 1), ("row", 0, 2, 2), ("row", 0, 3, 3))
        roll.undo(2)
        self.assertEqual(roll.leaning(0), [1, 3])

    def test_no_number(self):
        for thing in NO_NUMBERS:
            self.assertIs(refusal(some_roll().leaning, thing), errors.NoNumber, thing)
        for thing in (0, 1, -1, None, True, False):
            self.assertIs(refusal(Roll().leaning, thing), errors.NoNumber)

    def test_the_list_is_new_each_time(self):
        roll = some_roll()
        for number in (0, 3, 4, 7):
            first, second = roll.leaning(number), roll.leaning(number)
            self.assertIsNot(first, second)
            kept = list(second)
            first.append(99)
            first.reverse()
            first[0] = None
            self.assertEqual(second, kept)
            self.assertEqual(roll.leaning(number), kept)
            self.assertEqual(due_refusal(roll.undo, 0), (errors.Leaned, (1, 2, 3)))


class OneUndone(unittest.TestCase):
    def undone(self, roll, number):
        due = [(other, deed) for other, deed in roll.standing() if other != number]
        self.assertIsNone(roll.undo(number))
        self.assertEqual(roll.standing(), due)
        self.assertEqual(roll.sheet_now(), plain_roll.plain_sheet(due))

    def refused_with(self, roll, number, due):
        before = (roll.standing(), roll.sheet_now())
        self.assertEqual(due_refusal(roll.undo, number), due)
        self.assertEqual((roll.standing(), roll.sheet_now()), before)


class Undo(OneUndone):
    def test_the_last_one(self):
        roll = rolled(("layer",), ("row", 0, 1, 1), ("draw", 1, 2), ("hold", 1, 3), ("round", 1), ("straight", 0))
        due = [
            (((((2, 3),), None),), (0, 0, ())), (((((2, 3),), 0),), (0, 0, ())), (((((2, 3),), None),), (0, 0, ())),
            (((((2, 1),), None),), (0, 0, ())), (((((1, 1),), None),), (0, 0, ())), ((((), None),), (0, 0, ())), None,
        ]
        self.assertEqual(roll.sheet_now(), due[0])
        for number, sheet in zip((5, 4, 3, 2, 1, 0), due[1:]):
            self.undone(roll, number)
            self.assertEqual(roll.sheet_now(), sheet)
        self.assertEqual(roll.standing(), [])

    def test_out_of_the_midst(self):
        roll = rolled(
            ("layer",), ("row", 0, 1, 1), ("row", 0, 2, 2), ("draw", 1, 3), ("draw", 1, 4), ("draw", 1, 5),
            ("move", 1, 1, 1), ("move", 2, 2, 2), ("round", 2), ("round", 1),
        )
        self.undone(roll, 4)
        self.assertEqual(roll.sheet_now(), (((((5, 1), (2, 2)), 0),), (0, 0, ((1, 1, 1), (2, 2, 2)))))
        self.undone(roll, 5)
        self.assertEqual(roll.sheet_now(), (((((3, 1), (2, 2)), 0),), (0, 0, ((1, 1, 1), (2, 2, 2)))))
        self.undone(roll, 6)
        self.undone(roll, 9)
        self.assertEqual(roll.sheet_now(), (((((3, 1), (2, 2)), 1),), (0, 0, ((2, 2, 2),))))
        self.undone(roll, 3)
        self.assertEqual(roll.sheet_now(), (((((1, 1), (2, 2)), 1),), (0, 0, ((2, 2, 2),))))

    def test_a_layer_out_of_the_midst(self):
        roll = rolled(("layer",), ("layer",), ("layer",), ("row", 0, 1, 1), ("row", 2, 2, 2))
        self.undone(roll, 1)
        self.assertEqual(roll.sheet_now(), (((((1, 1),), None), (((2, 2),), None)), (0, 0, ())))
        self.assertEqual(roll.put(("row", 2, 3, 3)), 5)
        self.assertIs(refusal(roll.put, ("row", 1, 3, 3)), errors.NoDeed)

    def test_a_drop_is_undone_and_the_row_stands_where_it_stood(self):
        roll = rolled(("layer",), ("row", 0, 1, 1), ("row", 0, 2, 2), ("draw", 1, 9), ("drop", 1), ("row", 0, 3, 3))
        self.undone(roll, 4)
        self.assertEqual(roll.sheet_now(), (((((9, 1), (2, 2), (3, 3)), None),), (0, 0, ())))

    def test_what_a_gone_row_was_told_is_undone(self):
        roll = rolled(("layer",), ("row", 0, 1, 1), ("draw", 1, 9), ("hold", 1, 9), ("drop", 1))
        self.undone(roll, 2)
        self.assertEqual(roll.sheet_now(), ((((), None),), (0, 0, ())))
        self.undone(roll, 4)
        self.assertEqual(roll.sheet_now(), (((((1, 9),), None),), (0, 0, ())))

    def test_leaned_on(self):
        roll = rolled(
            ("layer",), ("row", 0, 1, 1), ("row", 0, 2, 2), ("draw", 1, 3), ("hold", 1, 4), ("drop", 1),
            ("straight", 0), ("round", 2),
        )
        for number, numbers in ((0, (1, 2, 6)), (1, (3, 4, 5)), (2, (7,))):
            self.refused_with(roll, number, (errors.Leaned, numbers))
            self.assertIs(type(things.refused(roll.undo, number).numbers), tuple)
        self.undone(roll, 4)
        self.refused_with(roll, 1, (errors.Leaned, (3, 5)))
        self.undone(roll, 5)
        self.undone(roll, 3)
        self.undone(roll, 1)
        self.refused_with(roll, 0, (errors.Leaned, (2, 6)))

    def test_no_number(self):
        roll = some_roll()
        for thing in NO_NUMBERS:
            self.refused_with(roll, thing, errors.NoNumber)
        for thing in things.spoiled(things.ROW) + [FIGURES, -FIGURES]:
            # In the row's own place there may be 0, which is the number of a deed.
            if type(thing) is not int or thing != 0:
                self.refused_with(roll, thing, errors.NoNumber)
        for thing in (0, -1, True, False, None):
            self.refused_with(Roll(), thing, errors.NoNumber)

    def test_truths_are_no_numbers(self):
        roll = rolled(("move", 0, 0, 0), ("move", 1, 1, 1))
        self.refused_with(roll, False, errors.NoNumber)
        self.refused_with(roll, True, errors.NoNumber)
        self.undone(roll, 1)
        self.undone(roll, 0)

    def test_one_that_stands_no_longer(self):
        roll = rolled(("layer",), ("layer",))
        self.undone(roll, 1)
        self.refused_with(roll, 1, errors.NoNumber)
        self.assertIs(refusal(roll.leaning, 1), errors.NoNumber)
        self.undone(roll, 0)
        self.refused_with(roll, 0, errors.NoNumber)

    def test_no_number_is_told_again(self):
        roll = Roll()
        for number in range(10):
            self.assertEqual(roll.put(("layer",)), number)
            roll.undo(number)
        self.assertEqual(roll.put(("move", 0, 0, 0)), 10)
        self.assertEqual(roll.put(("layer",)), 11)
        roll.undo(10)
        self.assertEqual(roll.put(("layer",)), 12)
        self.assertEqual(roll.standing(), [(11, ("layer",)), (12, ("layer",))])


class TooMany(OneUndone):
    def test_a_drop_where_the_layer_has_eight_rows_again(self):
        roll = rolled(("layer",), *[("row", 0, 1, 1)] * 8, ("drop", 4), ("row", 0, 2, 2))
        self.refused_with(roll, 9, (errors.TooMany, 9, 8))
        self.undone(roll, 10)
        self.undone(roll, 9)
        self.assertEqual(roll.sheet_now(), (((((1, 1),) * 8, None),), (0, 0, ())))
        self.assertEqual(due_refusal(roll.put, ("row", 0, 1, 1)), (errors.TooMany, 9, 8))

    def test_of_two_drops_one(self):
        roll = rolled(("layer",), *[("row", 0, 1, 1)] * 8, ("drop", 4), ("drop", 5), ("row", 0, 2, 2))
        self.undone(roll, 9)
        self.refused_with(roll, 10, (errors.TooMany, 9, 8))

    def test_another_layer_that_is_full_does_not_count(self):
        roll = rolled(("layer",), ("layer",), *[("row", 1, 1, 1)] * 8, ("row", 0, 1, 1), ("drop", 10))
        self.undone(roll, 11)

    def test_it_is_asked_of_what_comes_and_not_of_what_was_on_the_way(self):
        # Without the first drop there would have been nine rows for a while, but eight are what comes.
        roll = rolled(("layer",), *[("row", 0, 1, 1)] * 8, ("drop", 4), ("row", 0, 2, 2), ("drop", 5))
        self.undone(roll, 9)
        self.assertEqual(roll.sheet_now(), (((((1, 1),) * 7 + ((2, 2),), None),), (0, 0, ())))
        self.refused_with(roll, 11, (errors.TooMany, 9, 8))

    def test_leaned_goes_ahead(self):
        roll = rolled(("layer",), *[("row", 0, 1, 1)] * 8, ("drop", 4), ("row", 0, 2, 2))
        self.refused_with(roll, 4, (errors.Leaned, (9,)))


class MixedDeeds(unittest.TestCase):
    def test_put_and_undone_without_any_order(self):
        seen = {}
        for seed in range(100):
            chance = plain_roll.seeded(seed)
            roll, standing, numbered = Roll(), [], 0
            for turn in range(150):
                if chance.random() < 0.3:
                    number = chance.choice([chance.randint(-1, numbered), *[number for number, deed in standing]])
                    due = plain_roll.plain_undo(standing, number)
                    self.assertEqual(due_refusal(roll.undo, number), due, (seed, number, standing))
                    if due is None:
                        standing = [(other, deed) for other, deed in standing if other != number]
                else:
                    deed = plain_roll.some_deed(chance, standing, numbered)
                    due = plain_roll.plain_put(standing, deed)
                    self.assertEqual(due_refusal(roll.put, deed), due, (seed, deed, standing))
                    if due is None:
                        standing.append((numbered, deed))
                        numbered += 1
                kind = due[0] if isinstance(due, tuple) else due
                seen[kind] = seen.get(kind, 0) + 1
                self.assertEqual(roll.standing(), standing)
                self.assertEqual(roll.sheet_now(), plain_roll.plain_sheet(standing), (seed, standing))
                for number, deed in standing[::5]:
                    self.assertEqual(roll.leaning(number), plain_roll.plain_leaning(standing, number))
        for kind in (None, errors.NoDeed, errors.NoNumber, errors.Leaned, errors.TooMany):
            self.assertGreater(seen[kind], 20, kind)

    def test_what_comes_is_what_the_others_make_done_anew(self):
        roll = rolled(
            ("layer",), ("row", 0, 1, 1), ("row", 0, 2, 2), ("draw", 1, 3), ("round", 2), ("layer",), ("row", 5, 4, 4),
            ("move", 1, 1, 1), ("hold", 6, 9), ("straight", 0), ("round", 1), ("draw", 1, 7), ("move", 2, 2, 2),
        )
        deeds = roll.standing()
        for number in (3, 4, 7, 8, 9, 10, 11, 12):
            roll = rolled(*[deed for other, deed in deeds])
            roll.undo(number)
            # No deed behind these names a later one, so the others have the same numbers to name.
            anew = rolled(*[deed for other, deed in deeds if other < number])
            anew.put(("straight", 0))
            anew.undo(number)
            for other, deed in deeds:
                if other > number:
                    self.assertEqual(anew.put(deed), other)
            self.assertEqual(roll.sheet_now(), anew.sheet_now())
            self.assertEqual(roll.standing(), anew.standing())


class SideBySide(unittest.TestCase):
    def test_two_rolls(self):
        one, other = Roll(), Roll()
        self.assertEqual(one.put(("layer",)), 0)
        self.assertEqual(one.put(("row", 0, 1, 1)), 1)
        self.assertIsNone(other.sheet_now())
        self.assertEqual(other.standing(), [])
        self.assertIs(refusal(other.put, ("row", 0, 1, 1)), errors.NoDeed)
        self.assertIs(refusal(other.undo, 1), errors.NoNumber)
        self.assertEqual(other.put(("move", 1, 1, 1)), 0)
        self.assertEqual(other.put(("layer",)), 1)
        one.undo(1)
        self.assertEqual(one.sheet_now(), ((((), None),), (0, 0, ())))
        self.assertEqual(other.sheet_now(), ((((), None),), (0, 0, ((1, 1, 1),))))
        self.assertEqual(one.standing(), [(0, ("layer",))])
        self.assertEqual(other.standing(), [(0, ("move", 1, 1, 1)), (1, ("layer",))])
