"""[42]: sheets that are alike for ever, and the first moment that parts others."""

import unittest

from lanternrows import errors
from lanternrows.forever import are_alike, parting
from lanternrows.pictures import picture_at
from tests import things

STILL = (0, 0, ())
# Two rounds that have shown the same for so long never part.
ENOUGH = 192 * 3


def plain_parting(one, other):
    """The first moment at which the pictures are unlike, None where there is none, by plain laying."""
    laid = zip(things.plain_pictures(one, ENOUGH), things.plain_pictures(other, ENOUGH))
    return next((moment for moment, (here, there) in enumerate(laid) if here != there), None)


def one_layer(rows, back):
    return (((rows, back),), STILL)


class Parting(unittest.TestCase):
    def told(self, one, other, due):
        for here, there in ((one, other), (other, one)):
            self.assertEqual(things.in_kind(parting(here, there)), things.in_kind(due), (here, there))
            self.assertIs(are_alike(here, there), due is None, (here, there))

    def told_of_layers(self, one, other, due):
        self.told(one_layer(*one), one_layer(*other), due)
        beside = ((((1, 1), (2, 2)), 0), ((), None))
        window = (0, 0, ((3, 3, 5),))
        self.told(((one,) + beside, window), ((other,) + beside, window), due)
        self.told((beside + (one,), window), (beside + (other,), window), due)

    def told_of_windows(self, one, other, due):
        layers = ((((1, 1), (2, 2)), 0), ((), None))
        self.told((layers, one), (layers, other), due)
        self.told((layers[:1], one), (layers[:1], other), due)

    def test_a_row_parted_in_two(self):
        self.told_of_layers((((1, 5), (2, 3)), None), (((1, 2), (1, 3), (2, 3)), None), None)
        self.told_of_layers((((1, 5), (2, 3)), 0), (((1, 2), (1, 3), (2, 1), (2, 2)), 0), None)
        self.told_of_layers((((1, 5), (2, 3)), 1), (((1, 5), (2, 1), (2, 2)), 2), None)

    def test_a_round_gone_round_once_more(self):
        self.told_of_layers((((1, 1), (2, 2)), 0), (((1, 1), (2, 2)) * 2, 0), None)
        self.told_of_layers((((1, 1), (2, 2)), 0), (((1, 1), (2, 2)) * 4, 0), None)
        self.told_of_layers((((1, 1), (2, 2)), 0), (((1, 1), (2, 2)) * 3, 2), None)
        self.told_of_layers((((1, 1), (2, 2)), 0), (((1, 1), (2, 2), (1, 1)), 1), None)
        self.told_of_layers((((1, 1), (2, 1)) * 2, 0), (((1, 1), (2, 1)) * 3, 0), None)
        self.told_of_layers((((3, 1), (2, 1)), 1), (((3, 1), (2, 24)), 1), None)

    def test_rows_of_nothing_at_the_end(self):
        self.told_of_layers((((1, 5),), None), (((1, 5), (0, 24)), None), None)
        self.told_of_layers((((1, 5),), None), (((1, 5), (0, 24), (0, 1)), 2), None)
        self.told_of_layers((((1, 5),), None), (((1, 5), (0, 24), (0, 1)), 1), None)
        self.told_of_layers(((), None), (((0, 24),), None), None)
        self.told_of_layers(((), None), (((0, 24),), 0), None)

    def test_a_stay_of_the_window(self):
        self.told_of_windows((4, 4, ()), (4, 4, ((4, 4, 24),)), None)
        self.told_of_windows((0, 0, ((6, 6, 3),)), (0, 0, ((6, 6, 3), (6, 6, 9))), None)
        self.told_of_windows((0, 0, ((6, 6, 3),)), (0, 0, ((6, 6, 3), (1, 1, 0), (6, 6, 0))), None)
        self.told_of_windows((0, 0, ((6, 6, 3),)), (9, 9, ((0, 0, 0), (6, 6, 3))), None)
        self.told_of_windows((0, 0, ((6, -6, 4),)), (0, 0, ((3, -3, 2), (6, -6, 2))), None)
        self.told_of_windows((0, 0, ((6, 6, 1),)), (6, 6, ()), None)
        self.told_of_windows((0, 0, ((6, 6, 0),)), (6, 6, ()), None)

    def test_layers_parted_by_hand(self):
        self.told_of_layers((((1, 5),), None), (((2, 5),), None), 0)
        self.told_of_layers((((1, 5),), None), (((1, 6),), None), 5)
        self.told_of_layers((((1, 5),), None), (((1, 5),), 0), 5)
        self.told_of_layers(((), None), (((0, 24), (1, 1)), None), 24)
        self.told_of_layers((((1, 1), (2, 2)), 0), (((1, 1), (2, 2)) * 2, 1), 6)
        self.told_of_layers((((1, 24),) * 8, 0), (((1, 24),) * 8, None), 192)

    def test_windows_parted_by_hand(self):
        self.told_of_windows((0, 0, ()), (0, 1, ()), 0)
        self.told_of_windows((0, 0, ()), (1, 0, ()), 0)
        self.told_of_windows((0, 0, ((6, 6, 3),)), (0, 0, ((6, 6, 4),)), 0)
        self.told_of_windows((0, 0, ((6, 6, 3),)), (0, 0, ((6, 6, 3), (1, 1, 0))), 3)
        self.told_of_windows((0, 0, ((6, 6, 3),)), (0, 0, ((6, 6, 3), (6, 7, 24))), 3)
        self.told_of_windows((0, 0, ((0, 0, 24),) * 7 + ((0, 0, 24),)), (0, 0, ((0, 0, 24),) * 7 + ((0, 1, 24),)), 168)
        self.told_of_windows((0, 0, ((0, 0, 24),) * 7), (0, 0, ((0, 0, 24),) * 7 + ((0, 1, 0),)), 168)
        back_and_forth = ((20, -20, 24), (-20, 20, 24)) * 4
        self.told_of_windows((0, 0, back_and_forth), (0, 0, back_and_forth[:7] + ((-20, 20, 23), )), 168)
        self.told_of_windows((0, 0, ((0, 0, 24),) * 8), (0, 0, ((0, 0, 24),) * 7 + ((0, 0, 20), )), None)

    def test_sheets_that_are_parted_late(self):
        # The rounds are one apart: drawing 2 comes at moment 2 * many - 1 in one of them, and one later in the other.
        for many in (2, 3, 25, 90, 145):
            ones = [24] * ((many - 1) // 24) + ([(many - 1) % 24] if (many - 1) % 24 else [])
            rows = tuple((1, hold) for hold in ones) + ((2, 1),)
            self.told_of_layers((rows, 0), (rows + ((1, 1),), 0), 2 * many - 1)
        full = ((1, 24),) * 6
        self.told_of_layers((full + ((2, 24),), 0), (full + ((2, 24), (1, 24)), 0), 168 + 144)
        self.told_of_layers((full + ((2, 24), (1, 23)), 0), (full + ((2, 24), (1, 24)), 0), 191 + 144)

    def test_the_earliest_of_several(self):
        one = (((((1, 9),), None), (((2, 9),), None)), (0, 0, ((1, 1, 1),)))
        other = (((((1, 7),), None), (((2, 5),), None)), (0, 0, ((1, 1, 1), (1, 1, 5), (2, 2, 0))))
        self.told(one, other, 5)
        self.told(one, (one[0], other[1]), 6)
        self.told(one, (other[0][:1] + one[0][1:], one[1]), 7)
        self.told(one, (other[0][:1] + one[0][1:], other[1]), 6)
        self.told(one, (other[0], one[1]), 5)

    def test_a_sheet_is_alike_to_itself(self):
        for sheet in things.some_sheets() + things.mixed_sheets(40):
            self.told(sheet, sheet, None)

    def test_small_layers_against_plain_laying(self):
        layers = things.small_layers()
        laid = [things.plain_drawings(layer, 60) for layer in layers]
        for at in range(0, len(layers), 3):
            for beside in range(at % 7, len(layers), 7):
                pairs = enumerate(zip(laid[at], laid[beside]))
                due = next((moment for moment, (here, there) in pairs if here != there), None)
                told = parting(one_layer(*layers[at]), one_layer(*layers[beside]))
                self.assertEqual(told, due, (layers[at], layers[beside]))

    def test_mixed_sheets_against_plain_laying(self):
        pool = things.mixed_sheets(60, 3, 3, 2) + things.mixed_sheets(20)
        for at, one in enumerate(pool):
            for other in pool[at % 4::4]:
                if len(one[0]) == len(other[0]):
                    self.told(one, other, plain_parting(one, other))

    def test_full_layers_against_plain_laying(self):
        layers = things.full_layers()
        for at, one in enumerate(layers):
            for other in layers[at::5]:
                one_sheet, other_sheet = one_layer(*one), one_layer(*other)
                self.told(one_sheet, other_sheet, plain_parting(one_sheet, other_sheet))

    def test_the_moment_may_be_handed_in_again(self):
        one, other = one_layer(((1, 5),), None), one_layer(((1, 24), (1, 24), (2, 1)), 0)
        moment = parting(one, other)
        self.assertEqual(picture_at(one, moment - 1), picture_at(other, moment - 1))
        self.assertNotEqual(picture_at(one, moment), picture_at(other, moment))


class UnlikeSheets(unittest.TestCase):
    def test_unlike(self):
        layer = ((), None)
        for many in range(1, 5):
            for other in range(1, 5):
                pair = (((layer,) * many, STILL), ((layer,) * other, STILL))
                for asked in (parting, are_alike):
                    self.assertIs(things.refusal(asked, *pair), None if many == other else errors.Unlike)

    def test_no_sheet_goes_ahead_of_unlike(self):
        layer = ((), None)
        one = ((layer,), STILL)
        for wrong in (((layer, layer), None), ((layer, ((), 0)), STILL), None, ((layer,) * 5, STILL)):
            for asked in (parting, are_alike):
                self.assertIs(things.refusal(asked, one, wrong), errors.NoSheet)
                self.assertIs(things.refusal(asked, wrong, one), errors.NoSheet)
