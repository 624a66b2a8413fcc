"""[61], [62], [63]: layers evened and retimed, and sheets retimed."""

import unittest
from fractions import Fraction
from math import ceil, floor

from lanternrows import errors
from lanternrows.sheets import is_layer, is_sheet, layer_length
from lanternrows.timing import evened, retimed, sheet_retimed
from tests import things
from tests.things import outcome

STILL = (0, 0, ())
NOTHING = ((), None)


def layer(*holds, back=None):
    return (tuple((at % 10, hold) for at, hold in enumerate(holds)), back)


def drawings(told):
    return [drawing for drawing, hold in told[0]]


def holds(told):
    return [hold for drawing, hold in told[0]]


def plain_scaled(numbers, length, many):
    """The numbers between the ends, each end counted from the first one."""
    ends = [floor(Fraction(sum(numbers[:at]) * many, length)) for at in range(len(numbers) + 1)]
    return [end - last for last, end in zip(ends, ends[1:])]


class Timing(unittest.TestCase):
    def due(self, new, least, most):
        """The refusal due for these least and greatest numbers, else the new thing."""
        if least < 1:
            return errors.Squeezed
        return new if most <= 24 else (errors.TooMany, most, 24)


class Evened(Timing):
    def test_by_hand(self):
        three = layer(5, 1, 9)
        for many, shared in (
            (3, (1, 1, 1)), (4, (2, 1, 1)), (5, (2, 2, 1)), (6, (2, 2, 2)), (7, (3, 2, 2)), (15, (5, 5, 5)),
            (30, (10, 10, 10)), (71, (24, 24, 23)), (72, (24, 24, 24)),
        ):
            self.assertEqual(things.in_kind(evened(three, many)), things.in_kind(layer(*shared)), many)
        for many in (1, 2):
            self.assertIs(outcome(evened, three, many), errors.Squeezed)
        for many, great in ((73, 25), (74, 25), (75, 25), (76, 26), (200, 67)):
            self.assertEqual(outcome(evened, three, many), (errors.TooMany, great, 24))

    def test_one_row(self):
        for many in range(1, 201):
            due = layer(many) if many <= 24 else (errors.TooMany, many, 24)
            self.assertEqual(outcome(evened, layer(7), many), due)

    def test_eight_rows(self):
        full = layer(*[24] * 8)
        self.assertEqual(evened(full, 192), full)
        self.assertEqual(evened(full, 8), layer(*[1] * 8))
        self.assertEqual(evened(full, 9), layer(2, *[1] * 7))
        self.assertEqual(evened(full, 191), layer(*[24] * 7, 23))
        self.assertIs(outcome(evened, full, 7), errors.Squeezed)
        self.assertEqual(outcome(evened, full, 193), (errors.TooMany, 25, 24))
        self.assertEqual(outcome(evened, full, 200), (errors.TooMany, 25, 24))

    def test_each_number(self):
        for old in things.straight_layers()[::2]:
            size = len(old[0])
            for many in range(1, 201):
                told = outcome(evened, old, many)
                if many < size or not size:
                    self.assertIs(told, errors.Squeezed)
                elif many > 24 * size:
                    self.assertEqual(told, (errors.TooMany, ceil(Fraction(many, size)), 24))
                else:
                    self.shared_evenly(old, told, many)

    def shared_evenly(self, old, told, many):
        self.assertTrue(is_layer(told))
        self.assertIsNone(told[1])
        self.assertEqual(drawings(told), drawings(old))
        shared = holds(told)
        self.assertEqual(sum(shared), many)
        self.assertLessEqual(max(shared) - min(shared), 1)
        self.assertEqual(shared, sorted(shared, reverse=True))

    def test_no_rows(self):
        for many in (1, 24, 200):
            self.assertIs(outcome(evened, NOTHING, many), errors.Squeezed)


class Retimed(Timing):
    def test_by_hand(self):
        self.assertEqual(retimed(layer(1, 2, 3), 6), layer(1, 2, 3))
        self.assertEqual(retimed(layer(1, 2, 3), 12), layer(2, 4, 6))
        self.assertEqual(things.in_kind(retimed(layer(2, 4, 6), 6)), things.in_kind(layer(1, 2, 3)))
        self.assertEqual(retimed(layer(3, 3, 3), 10), layer(3, 3, 4))
        self.assertEqual(retimed(layer(3, 3, 3), 4), layer(1, 1, 2))
        self.assertEqual(retimed(layer(1, 1, 1, 1), 7), layer(1, 2, 2, 2))
        self.assertEqual(retimed(layer(10, 1), 24), layer(21, 3))
        self.assertIs(outcome(retimed, layer(1, 2, 3), 5), errors.Squeezed)
        self.assertIs(outcome(retimed, layer(3, 3, 3), 2), errors.Squeezed)
        self.assertEqual(outcome(retimed, layer(1, 24), 26), (errors.TooMany, 25, 24))
        self.assertEqual(outcome(retimed, layer(1, 2, 3), 100), (errors.TooMany, 50, 24))

    def test_the_greatest_may_stand_anywhere(self):
        for shape in ((9, 1, 1), (1, 9, 1), (1, 1, 9)):
            self.assertEqual(outcome(retimed, layer(*shape), 110), (errors.TooMany, 90, 24))

    def test_squeezed_beside_too_many(self):
        # Of rows held 1, 24 and 2 pictures, 26 pictures are 0, 24 and 2, and 50 are 1, 45 and 4.
        self.assertIs(outcome(retimed, layer(1, 24, 2), 26), errors.Squeezed)
        self.assertEqual(outcome(retimed, layer(1, 24, 2), 50), (errors.TooMany, 45, 24))
        # Below its own length no row comes to more than 24, so that both are never due of the same rows.
        self.assertIs(outcome(retimed, layer(1, *[24] * 7), 168), errors.Squeezed)
        self.assertEqual(outcome(retimed, layer(1, *[24] * 7), 170), (errors.TooMany, 25, 24))

    def test_each_number(self):
        for old in things.straight_layers()[::2]:
            length = layer_length(old)
            for many in range(1, 201):
                told = outcome(retimed, old, many)
                if not length:
                    self.assertIs(told, errors.Squeezed)
                    continue
                new = plain_scaled(holds(old), length, many)
                due = self.due((tuple(zip(drawings(old), new)), None), min(new), max(new))
                self.assertEqual(told, due, (old, many))

    def test_each_hold_is_less_than_one_picture_off(self):
        for old in things.straight_layers():
            length = layer_length(old)
            for many in (8, 24, 60, 100, length, 2 * length, 192, 200):
                if not 1 <= many <= 200 or things.refusal(retimed, old, many):
                    continue
                told = retimed(old, many)
                self.assertTrue(is_layer(told))
                self.assertEqual(layer_length(told), many)
                for hold, new in zip(holds(old), holds(told)):
                    self.assertLess(abs(new - Fraction(hold * many, length)), 1)

    def test_its_own_length_and_twice_it(self):
        for old in things.straight_layers():
            length = layer_length(old)
            if length:
                self.assertEqual(retimed(old, length), old)
            if length and 2 * length <= 200:
                twice = (tuple((drawing, 2 * hold) for drawing, hold in old[0]), None)
                self.assertEqual(outcome(retimed, old, 2 * length), self.due(twice, 2, max(holds(twice))))

    def test_as_many_as_rows_one_fewer_and_eight_times_24(self):
        even = layer(*[3] * 8)
        self.assertEqual(retimed(even, 8), layer(*[1] * 8))
        self.assertIs(outcome(retimed, even, 7), errors.Squeezed)
        self.assertEqual(retimed(even, 192), layer(*[24] * 8))
        self.assertEqual(outcome(retimed, even, 193), (errors.TooMany, 25, 24))
        self.assertEqual(outcome(retimed, layer(1), 200), (errors.TooMany, 200, 24))

    def test_no_rows(self):
        for many in (1, 24, 200):
            self.assertIs(outcome(retimed, NOTHING, many), errors.Squeezed)


class EndlessLayers(Timing):
    def test_endless_behind_no_layer_and_no_number(self):
        for asked in (evened, retimed):
            for many in (1, 2, 100, 200):
                self.assertIs(outcome(asked, layer(1, 2, 3, back=0), many), errors.Endless)
                self.assertIs(outcome(asked, layer(5, back=0), many), errors.Endless)
                self.assertIs(outcome(asked, ((), 0), many), errors.NoLayer)
            for wrong in things.WRONG_TIMES:
                self.assertIs(outcome(asked, layer(5, back=0), wrong), errors.NoNumber)
                self.assertIs(outcome(asked, NOTHING, wrong), errors.NoNumber)
                self.assertIs(outcome(asked, ((), 0), wrong), errors.NoLayer)


class SheetRetimed(Timing):
    def plain(self, sheet, many):
        """The sheet that is due, or the refusal."""
        if any(back is not None for rows, back in sheet[0]):
            return errors.Endless
        length = things.plain_length(sheet)
        if not length:
            return errors.Squeezed
        layers, (x, y, moves) = sheet
        new = [plain_scaled(holds(old), length, many) for old in layers]
        manies = plain_scaled([move[2] for move in moves], length, many)
        layers = tuple((tuple(zip(drawings(old), shared)), None) for old, shared in zip(layers, new))
        window = (x, y, tuple(move[:2] + (number,) for move, number in zip(moves, manies)))
        rows = sum(new, [])
        return self.due((layers, window), min(rows, default=1), max(rows + manies))

    def test_by_hand(self):
        sheet = ((layer(2, 4), layer(3), NOTHING), (1, 1, ((5, 5, 2), (6, 6, 0), (7, 7, 3))))
        self.assertEqual(things.in_kind(sheet_retimed(sheet, 12)), things.in_kind(
            ((layer(4, 8), layer(6), NOTHING), (1, 1, ((5, 5, 4), (6, 6, 0), (7, 7, 6)))),
        ))
        self.assertEqual(sheet_retimed(sheet, 6), sheet)
        self.assertEqual(sheet_retimed(sheet, 3), (
            (layer(1, 2), layer(1), NOTHING), (1, 1, ((5, 5, 1), (6, 6, 0), (7, 7, 1))),
        ))
        self.assertIs(outcome(sheet_retimed, sheet, 2), errors.Squeezed)

    def test_a_layer_that_is_shorter_goes_by_the_length_of_the_sheet(self):
        sheet = ((layer(10), layer(1, 1)), STILL)
        self.assertEqual(sheet_retimed(sheet, 20), ((layer(20), layer(2, 2)), STILL))
        self.assertEqual(sheet_retimed(sheet, 15), ((layer(15), layer(1, 2)), STILL))
        self.assertIs(outcome(sheet_retimed, sheet, 9), errors.Squeezed)

    def test_the_window_may_be_the_longest(self):
        sheet = ((layer(2),), (0, 0, ((1, 1, 10),)))
        self.assertEqual(sheet_retimed(sheet, 20), ((layer(4),), (0, 0, ((1, 1, 20),))))
        self.assertEqual(sheet_retimed(sheet, 5), ((layer(1),), (0, 0, ((1, 1, 5),))))
        self.assertIs(outcome(sheet_retimed, sheet, 4), errors.Squeezed)
        self.assertEqual(outcome(sheet_retimed, sheet, 25), (errors.TooMany, 25, 24))

    def test_a_move_may_come_to_have_no_pictures(self):
        sheet = ((layer(10),), (0, 0, ((1, 1, 1), (2, 2, 1), (3, 3, 0), (4, 4, 8))))
        self.assertEqual(sheet_retimed(sheet, 1), (
            (layer(1),), (0, 0, ((1, 1, 0), (2, 2, 0), (3, 3, 0), (4, 4, 1))),
        ))
        self.assertEqual(sheet_retimed(((NOTHING,), (0, 0, ((1, 1, 24), (2, 2, 24)))), 1), (
            (NOTHING,), (0, 0, ((1, 1, 0), (2, 2, 1))),
        ))

    def test_length_nought(self):
        for many in (1, 24, 25, 200):
            for sheet in (((NOTHING,), STILL), ((NOTHING,) * 4, (0, 0, ((1, 1, 0), (2, 2, 0))))):
                self.assertIs(outcome(sheet_retimed, sheet, many), errors.Squeezed)

    def test_endless_then_squeezed_then_too_many(self):
        far = ((layer(24, 24), layer(1, 24)), (0, 0, ((1, 1, 24),)))
        self.assertIs(outcome(sheet_retimed, far, 47), errors.Squeezed)
        self.assertEqual(outcome(sheet_retimed, far, 60), (errors.TooMany, 30, 24))
        for back in (0, 1):
            endless = ((layer(24, 24), layer(1, 24, back=back)), (0, 0, ((1, 1, 24),)))
            for many in (1, 47, 60, 200):
                self.assertIs(outcome(sheet_retimed, endless, many), errors.Endless)
        moving = ((layer(1),), (0, 0, ((1, 1, 24), (1, 1, 24), (1, 1, 24), (2, 2, 24))))
        self.assertIs(outcome(sheet_retimed, moving, 95), errors.Squeezed)
        self.assertEqual(outcome(sheet_retimed, moving, 120), (errors.TooMany, 30, 24))
        uneven = ((layer(1, 1, 1), layer(24)), STILL)
        self.assertIs(outcome(sheet_retimed, uneven, 23), errors.Squeezed)

    def test_the_greatest_of_rows_and_moves(self):
        rows = ((layer(5, 6), layer(10)), (0, 0, ((1, 1, 4), (2, 2, 7))))
        self.assertEqual(outcome(sheet_retimed, rows, 110), (errors.TooMany, 100, 24))
        moves = ((layer(5, 6), layer(4)), (0, 0, ((1, 1, 2), (2, 2, 9))))
        self.assertEqual(outcome(sheet_retimed, moves, 110), (errors.TooMany, 90, 24))
        self.assertEqual(outcome(sheet_retimed, (moves[0][::-1], moves[1]), 55), (errors.TooMany, 45, 24))

    def test_each_number(self):
        told_so_many = 0
        for sheet in [things.straight(sheet) for sheet in things.mixed_sheets(60, 4, 24) + things.some_sheets()[::4]]:
            for many in [*range(1, 201, 3), 192, 193, 200, *own_lengths(sheet)]:
                told, due = outcome(sheet_retimed, sheet, many), self.plain(sheet, many)
                self.assertEqual(told, due, (sheet, many))
                if is_sheet(told):
                    told_so_many += 1
                    self.assertEqual(things.plain_length(told), many)
        self.assertGreater(told_so_many, 200)

    def test_its_own_length(self):
        for sheet in map(things.straight, things.mixed_sheets(100)):
            length = things.plain_length(sheet)
            if length:
                self.assertEqual(sheet_retimed(sheet, length), sheet)

    def test_sheets_that_go_round(self):
        for sheet in things.mixed_sheets(60) + things.some_sheets():
            if any(back is not None for rows, back in sheet[0]):
                for many in (1, 30, 200):
                    self.assertIs(outcome(sheet_retimed, sheet, many), errors.Endless)
                for wrong in (0, 201, None, True):
                    self.assertIs(outcome(sheet_retimed, sheet, wrong), errors.NoNumber)


def own_lengths(sheet):
    """The sheet's own length and twice it, where something may be retimed to them."""
    length = things.plain_length(sheet)
    return [many for many in (length, 2 * length) if 1 <= many <= 200]
