"""[51], [52]: sheets set behind and beside one another."""

import unittest

from lanternrows import errors
from lanternrows.joining import behind, beside
from lanternrows.sheets import is_sheet
from tests import things

STILL = (0, 0, ())
NOTHING = ((), None)


def layer(*holds, back=None, drawing=1):
    return (tuple((drawing, hold) for hold in holds), back)


def plain_filling(many):
    """So many pictures as numbers of at most 24, the full ones first."""
    parts = []
    while many:
        parts.append(min(24, many))
        many -= parts[-1]
    return parts


def plain_behind(one, other):
    """The sheet that behind should tell, with however many rows and moves."""
    length = things.plain_length(one)
    layers = []
    for (rows, none), (rows_behind, back) in zip(one[0], other[0]):
        rows += tuple((0, hold) for hold in plain_filling(length - sum(hold for drawing, hold in rows)))
        layers.append((rows + rows_behind, None if back is None else back + len(rows)))
    (x, y, moves), (x_behind, y_behind, moves_behind) = one[1], other[1]
    goal = moves[-1][:2] if moves else (x, y)
    moves += tuple((*goal, many) for many in plain_filling(length - sum(move[2] for move in moves)))
    return (tuple(layers), (x, y, moves + ((x_behind, y_behind, 0),) + moves_behind))


class Behind(unittest.TestCase):
    def told(self, one, other, due):
        told = behind(one, other)
        self.assertEqual(things.in_kind(told), things.in_kind(due), (one, other))
        self.shows_both(one, other, told)

    def shows_both(self, one, other, told):
        self.assertTrue(is_sheet(told))
        length = things.plain_length(one)
        laid = things.plain_pictures(one, length) + things.plain_pictures(other, 400)
        self.assertEqual(things.plain_pictures(told, length + 400), laid, (one, other))

    def test_by_hand(self):
        one = ((layer(2, 3), layer(1, drawing=2)), (0, 0, ((4, 4, 2),)))
        other = ((layer(7, drawing=3), layer(1, 2, drawing=4)), (9, -9, ((5, 5, 5),)))
        self.told(one, other, (
            ((((1, 2), (1, 3), (3, 7)), None), (((2, 1), (0, 4), (4, 1), (4, 2)), None)),
            (0, 0, ((4, 4, 2), (4, 4, 3), (9, -9, 0), (5, 5, 5))),
        ))

    def test_a_window_without_moves_stays_where_it_begins(self):
        one = ((layer(5),), (7, -8, ()))
        other = ((layer(1),), (7, -8, ()))
        self.told(one, other, ((layer(5, 1),), (7, -8, ((7, -8, 5), (7, -8, 0)))))

    def test_a_window_that_is_longer_than_the_layers(self):
        one = ((layer(5), NOTHING), (0, 0, ((1, 1, 24), (2, 2, 1))))
        other = ((layer(1, drawing=2), layer(2, drawing=3)), (3, 3, ()))
        self.told(one, other, (
            ((((1, 5), (0, 20), (2, 1)), None), (((0, 24), (0, 1), (3, 2)), None)),
            (0, 0, ((1, 1, 24), (2, 2, 1), (3, 3, 0))),
        ))

    def test_a_window_that_ends_with_moves_of_no_pictures(self):
        one = ((layer(5),), (0, 0, ((1, 1, 2), (6, 6, 0))))
        other = ((layer(1),), (0, 0, ()))
        self.told(one, other, ((layer(5, 1),), (0, 0, ((1, 1, 2), (6, 6, 0), (6, 6, 3), (0, 0, 0)))))
        one = ((layer(2),), (0, 0, ((1, 1, 2), (6, 6, 0))))
        self.told(one, other, ((layer(2, 1),), (0, 0, ((1, 1, 2), (6, 6, 0), (0, 0, 0)))))

    def test_shorter_by_less_than_24_by_24_and_by_more(self):
        for shorter, filled in (
            (0, ()), (1, (1,)), (23, (23,)), (24, (24,)), (25, (24, 1)), (47, (24, 23)), (48, (24, 24)),
            (49, (24, 24, 1)), (72, (24, 24, 24)), (73, (24, 24, 24, 1)), (95, (24, 24, 24, 23)),
        ):
            full = layer(*plain_filling(shorter + 2))
            one = ((full, layer(2, drawing=5), NOTHING), (1, 1, ((2, 2, 2),)))
            other = ((layer(1), layer(1, drawing=6, back=0), NOTHING), (3, 3, ()))
            rest = tuple((0, hold) for hold in filled)
            last = tuple((0, hold) for hold in plain_filling(shorter + 2))
            moves = ((2, 2, 2),) + tuple((2, 2, hold) for hold in filled) + ((3, 3, 0),)
            layers = ((full[0] + ((1, 1),), None), (((5, 2),) + rest + ((6, 1),), 1 + len(rest)), (last, None))
            self.told(one, other, (layers, (1, 1, moves)))

    def test_a_first_sheet_of_length_nought(self):
        other = ((layer(3, 4, back=1), NOTHING), (5, 6, ((7, 8, 9),)))
        self.told(((NOTHING, NOTHING), (1, 2, ())), other, (other[0], (1, 2, ((5, 6, 0), (7, 8, 9)))))
        self.told(
            ((NOTHING, NOTHING), (1, 2, ((3, 3, 0),))), other, (other[0], (1, 2, ((3, 3, 0), (5, 6, 0), (7, 8, 9)))),
        )

    def test_the_back_by_its_new_number(self):
        for back in range(3):
            other = ((layer(1, 2, 3, drawing=2, back=back),), STILL)
            self.assertEqual(behind(((layer(5),), STILL), other)[0][0][1], back + 1)
            self.assertEqual(behind(((NOTHING,), STILL), other)[0][0][1], back)
            self.assertEqual(behind(((NOTHING,), (0, 0, ((1, 1, 24), (2, 2, 1)))), other)[0][0][1], back + 2)
            self.shows_both(((layer(5),), STILL), other, behind(((layer(5),), STILL), other))
        self.assertIsNone(behind(((layer(5),), STILL), ((layer(1),), STILL))[0][0][1])

    def test_sheets_against_plain_laying(self):
        pool = things.mixed_sheets(80, 3, 24, 2) + things.mixed_sheets(40, 4, 6, 3)
        joined = 0
        for at, one in enumerate(pool):
            for other in pool[at % 3::3]:
                if len(one[0]) != len(other[0]):
                    continue
                one = things.straight(one)
                due = plain_behind(one, other)
                sizes = [len(rows) for rows, back in due[0]] + [len(due[1][2])]
                great = [size for size in sizes if size > 8]
                if great:
                    self.too_many(one, other, great[0])
                else:
                    joined += 1
                    self.told(one, other, due)
        self.assertGreater(joined, 200)

    def too_many(self, one, other, many):
        error = things.refused(behind, one, other)
        self.assertIs(type(error), errors.TooMany, (one, other))
        self.assertEqual((error.many, error.most), (many, 8), (one, other))

    def test_eight_rows_and_eight_moves(self):
        one = ((layer(*[1] * 4),), (0, 0, ((1, 1, 1), (2, 2, 3), (1, 1, 0))))
        other = ((layer(*[1] * 4, drawing=2),), (0, 0, ((3, 3, 1),) * 4))
        told = behind(one, other)
        self.assertEqual((len(told[0][0][0]), len(told[1][2])), (8, 8))
        self.too_many(one, ((layer(*[1] * 5),), other[1]), 9)
        self.too_many(one, (other[0], (0, 0, ((3, 3, 1),) * 5)), 9)
        self.too_many(((layer(*[1] * 8),), (0, 0, ())), ((layer(*[1] * 8),), STILL), 16)

    def test_the_first_layer_with_too_many_and_the_window_behind_all(self):
        fine, nine, ten = (layer(1), layer(1)), (layer(*[1] * 8), layer(1)), (layer(*[1] * 8), layer(1, 1))
        moves = (0, 0, ((1, 1, 1),) * 8)

        def both(*pairs, window=STILL):
            return (tuple(pair[0] for pair in pairs), (0, 0, ())), (tuple(pair[1] for pair in pairs), window)

        # Each first sheet has eight pictures, so that a layer of one picture has a row of nothing more.
        self.too_many(*both(fine, nine, ten), 9)
        self.too_many(*both(fine, ten, nine), 10)
        self.too_many(*both(ten, fine, nine, nine), 10)
        self.too_many(*both(nine, ten, window=moves), 9)
        self.too_many(*both(fine, fine, ten, window=moves), 10)
        self.too_many(*both(fine, fine, window=moves), 10)

    def test_rows_of_nothing_and_stays_count(self):
        one = ((layer(*[24] * 6), NOTHING), (0, 0, ()))
        self.too_many(one, ((NOTHING, layer(1, 1, 1)), STILL), 9)
        self.assertEqual(len(behind(one, ((NOTHING, layer(1, 1)), STILL))[0][1][0]), 8)
        self.too_many(one, ((NOTHING, NOTHING), (0, 0, ((1, 1, 1),) * 2)), 9)
        self.assertEqual(len(behind(one, ((NOTHING, NOTHING), (0, 0, ((1, 1, 1),))))[1][2]), 8)
        self.too_many(((layer(*[24] * 8),), STILL), ((NOTHING,), STILL), 9)

    def test_unlike(self):
        for many in range(1, 5):
            for other in range(1, 5):
                if many != other:
                    pair = (((layer(1),) * many, STILL), ((layer(1),) * other, STILL))
                    self.assertIs(things.refusal(behind, *pair), errors.Unlike)

    def test_endless(self):
        other = ((layer(1), layer(1)), STILL)
        for layers in ((layer(1, back=0), layer(1)), (layer(1), layer(1, 1, back=1)), (layer(1, back=0),) * 2):
            self.assertIs(things.refusal(behind, (layers, STILL), other), errors.Endless)
            self.assertIsNone(things.refusal(behind, other, (layers, STILL)))

    def test_unlike_then_endless_then_too_many(self):
        endless, full = layer(*[1] * 8, back=0), layer(*[1] * 8)
        self.assertIs(things.refusal(behind, ((endless,), STILL), ((full, full), STILL)), errors.Unlike)
        self.assertIs(things.refusal(behind, ((full,), STILL), ((full, full), STILL)), errors.Unlike)
        self.assertIs(things.refusal(behind, ((endless,), STILL), ((full,), STILL)), errors.Endless)
        self.assertIs(things.refusal(behind, ((full,), STILL), ((endless,), STILL)), errors.TooMany)
        self.assertIs(things.refusal(behind, ((endless,), STILL), ((full,), (0, 0, 0))), errors.NoSheet)

    def test_what_is_told_may_be_handed_in_again(self):
        sheet = ((layer(1),), (0, 0, ((1, 1, 1),)))
        twice = behind(sheet, sheet)
        self.assertEqual(behind(twice, sheet), plain_behind(twice, sheet))
        self.assertEqual(behind(sheet, twice), plain_behind(sheet, twice))


class Beside(unittest.TestCase):
    def test_up_to_four_layers(self):
        layers = (layer(1, 2), layer(3, drawing=2, back=0), NOTHING, layer(4, 5, drawing=3, back=1))
        window = (1, 2, ((3, 4, 5),))
        for many in range(1, 4):
            for other in range(1, 5 - many):
                told = beside((layers[:many], window), (layers[many:many + other], (6, 7, ((8, 9, 10),))))
                self.assertEqual(things.in_kind(told), things.in_kind((layers[:many + other], window)))
                self.assertTrue(is_sheet(told))

    def test_five_and_more(self):
        for many in range(1, 5):
            for other in range(max(1, 5 - many), 5):
                error = things.refused(beside, ((layer(1),) * many, STILL), ((layer(2),) * other, STILL))
                self.assertIs(type(error), errors.TooMany)
                self.assertEqual((error.many, error.most), (many + other, 4))

    def test_sheets_that_go_round_and_sheets_of_other_lengths(self):
        pool = [sheet for sheet in things.some_sheets() + things.mixed_sheets(40) if len(sheet[0]) < 4]
        for at, one in enumerate(pool):
            for other in pool[at % 5::5]:
                if len(one[0]) + len(other[0]) <= 4:
                    told = beside(one, other)
                    self.assertEqual(told, (one[0] + other[0], one[1]))
        one, other = ((layer(2, back=0),), (0, 0, ((4, 4, 4),))), ((layer(1, 1, drawing=2, back=1),), (5, 5, ()))
        shown = things.plain_pictures(beside(one, other), 20)
        beside_one, beside_other = things.plain_pictures(one, 20), things.plain_pictures(other, 20)
        self.assertEqual(shown, [(a[0] + b[0], a[1]) for a, b in zip(beside_one, beside_other)])

    def test_the_same_sheet_twice(self):
        one = ((layer(2), NOTHING), (1, 1, ()))
        self.assertEqual(beside(one, one), ((layer(2), NOTHING) * 2, (1, 1, ())))
