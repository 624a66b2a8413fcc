"""[31], [32]: layers laid, and drawings folded."""

import unittest
from itertools import groupby, product

from lanternrows import errors
from lanternrows.laying import folded, laid
from lanternrows.sheets import is_layer, layer_length
from tests import things


class Laid(unittest.TestCase):
    def test_by_hand(self):
        rows = ((4, 2), (0, 1), (7, 3))
        self.assertEqual(laid((rows, None), 9), [4, 4, 0, 7, 7, 7, 0, 0, 0])
        self.assertEqual(laid((rows, 0), 14), [4, 4, 0, 7, 7, 7, 4, 4, 0, 7, 7, 7, 4, 4])
        self.assertEqual(laid((rows, 1), 12), [4, 4, 0, 7, 7, 7, 0, 7, 7, 7, 0, 7])
        self.assertEqual(laid((rows, 2), 10), [4, 4, 0, 7, 7, 7, 7, 7, 7, 7])
        self.assertEqual(laid((rows, 1), 4), [4, 4, 0, 7])

    def test_no_rows(self):
        for many in (0, 1, 24, 200):
            self.assertEqual(laid(((), None), many), [0] * many)

    def test_no_moments(self):
        for layer in things.small_layers() + things.full_layers():
            self.assertEqual(things.in_kind(laid(layer, 0)), [list, []])

    def test_small_layers(self):
        for layer in things.small_layers():
            for many in (1, 2, 5, 9, 25, 200):
                told = things.in_kind(laid(layer, many))
                self.assertEqual(told, things.in_kind(things.plain_drawings(layer, many)), (layer, many))

    def test_full_layers(self):
        for layer in things.full_layers() + things.mixed_layers(200):
            for many in (1, 24, 25, 191, 192, 193, 199, 200):
                self.assertEqual(laid(layer, many), things.plain_drawings(layer, many), (layer, many))

    def test_the_list_is_new_each_time(self):
        for layer in (((), None), (((1, 3),), None), (((1, 3),), 0), (((1, 1), (2, 2)), 1)):
            for many in (0, 3, 200):
                first, second = laid(layer, many), laid(layer, many)
                self.assertIsNot(first, second)
                kept = list(second)
                first.append(5)
                first.reverse()
                first[0] = None
                self.assertEqual(second, kept)
                self.assertEqual(laid(layer, many), kept)


def parted(many, parts):
    """Each way to part a run into so many holds."""
    return [holds for holds in product(range(1, 25), repeat=parts) if sum(holds) == many]


def plain_folded(drawings):
    """The rows of the fewest, of several the first: of all ways to part the runs that there are."""
    choices = []
    for drawing, group in groupby(drawings):
        many = len(list(group))
        parts = 1
        while not parted(many, parts):
            parts += 1
        choices.append([tuple((drawing, hold) for hold in holds) for holds in parted(many, parts)])
    return min(sum(ways, ()) for ways in product(*choices))


class Folded(unittest.TestCase):
    def test_no_drawings_and_one(self):
        self.assertEqual(folded([]), ((), None))
        for drawing in range(10):
            self.assertEqual(folded([drawing]), (((drawing, 1),), None))

    def test_by_hand(self):
        self.assertEqual(folded([1, 1, 2]), (((1, 2), (2, 1)), None))
        self.assertEqual(folded([0, 0, 3, 0, 0]), (((0, 2), (3, 1), (0, 2)), None))
        self.assertEqual(folded([0] * 5), (((0, 5),), None))
        self.assertEqual(folded([2, 1, 2, 1]), (((2, 1), (1, 1), (2, 1), (1, 1)), None))

    def test_runs_by_hand(self):
        for drawing in (0, 9):
            for many, holds in (
                (23, (23,)), (24, (24,)), (25, (1, 24)), (26, (2, 24)), (47, (23, 24)), (48, (24, 24)),
                (49, (1, 24, 24)), (72, (24,) * 3), (73, (1, 24, 24, 24)), (168, (24,) * 7), (169, (1,) + (24,) * 7),
                (191, (23,) + (24,) * 7), (192, (24,) * 8),
            ):
                due = (tuple((drawing, hold) for hold in holds), None)
                self.assertEqual(folded([drawing] * many), due, many)

    def test_each_run_against_all_ways(self):
        for many in range(1, 73):
            self.assertEqual(folded([6] * many), (plain_folded([6] * many), None), many)

    def test_several_runs_against_all_ways(self):
        for first, second, third in product((1, 24, 25, 48), (1, 24, 47), (2, 25)):
            drawings = [1] * first + [2] * second + [1] * third
            self.assertEqual(folded(drawings), (plain_folded(drawings), None), (first, second, third))

    def test_eight_rows_and_more(self):
        self.assertEqual(folded([1, 2] * 4), (((1, 1), (2, 1)) * 4, None))
        runs = [1] * 49 + [2] * 49 + [0] * 25
        self.assertEqual(len(folded(runs)[0]), 8)
        for drawings, many in (
            ([1, 2] * 4 + [1], 9), ([1, 2] * 5, 10), ([1, 2] * 100, 200), ([3] * 193, 9), ([0] * 200, 9),
            (runs + [4], 9), (runs + [0] * 23, 8), (runs + [0] * 24, 9), ([1] * 25 + [2, 1, 2, 1, 2, 1, 2, 1], 10),
        ):
            error = things.refused(folded, drawings)
            if many == 8:
                self.assertIsNone(error)
            else:
                self.assertIs(type(error), errors.TooMany)
                self.assertEqual((error.many, error.most), (many, 8))

    def test_laid_again_it_gives_the_list(self):
        for layer in things.straight_layers():
            drawings = things.plain_drawings(layer, layer_length(layer))
            told = folded(drawings)
            self.assertTrue(is_layer(told))
            self.assertEqual(layer_length(told), len(drawings))
            self.assertEqual(laid(told, len(drawings)), drawings)
            self.assertLessEqual((len(told[0]), told), (len(layer[0]), layer))

    def test_what_was_laid_may_be_folded(self):
        for layer in things.small_layers():
            drawings = laid(layer, 7)
            self.assertEqual(laid(folded(drawings), 7), drawings)

    def test_a_list_of_two_hundred_is_taken(self):
        drawings = [1] * 24 + [2] * 25 + [3] * 47 + [4] * 48 + [5] * 24
        self.assertEqual(len(folded(drawings)[0]), 8)
        # 200 drawings never fit into eight rows of at most 24: they are a list of drawings all the same.
        self.assertIs(things.refusal(folded, [1] * 200), errors.TooMany)
        self.assertIs(things.refusal(folded, [1] * 201), errors.NoDrawings)

    def test_what_is_no_list_of_drawings(self):
        for wrong in things.wrong_drawings():
            self.assertIs(things.refusal(folded, wrong), errors.NoDrawings, wrong)

    def test_no_drawings_goes_ahead_of_too_many(self):
        for wrong in ([1, 2] * 50 + [10], [1, 2] * 100 + [1], [True] + [0, 1] * 9):
            self.assertIs(things.refusal(folded, wrong), errors.NoDrawings)

    def test_the_list_stays_as_it_was_and_may_be_changed_later(self):
        drawings = [1, 1, 2] + [0] * 30
        kept = list(drawings)
        told = folded(drawings)
        self.assertEqual(drawings, kept)
        drawings.clear()
        self.assertEqual(told, (((1, 2), (2, 1), (0, 6), (0, 24)), None))
        self.assertEqual(folded(kept), told)
