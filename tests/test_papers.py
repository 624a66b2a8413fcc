"""[73]: the papers that tell which plates are kept and which are made anew."""

import unittest
from itertools import product

from lanternrows import errors
from lanternrows.plates import changed, is_paper, least_paper, made_by, plates
from tests import things
from tests.things import FIGURES, refusal

STILL = (0, 0, ())


def still(*drawings):
    """A sheet of one layer that shows these, one picture each."""
    return (((tuple((drawing, 1) for drawing in drawings), None),), STILL)


def plain_least(one, other, many):
    """The paper with the fewest, found by looking through the pictures one by one."""
    had, shown = things.plain_pictures(one, many), things.plain_pictures(other, many)
    new = []
    for picture in shown:
        if picture not in had and picture not in new:
            new.append(picture)
    return tuple(("kept", had.index(it)) if it in had else ("made", new.index(it)) for it in shown)


def plain_is_paper(one, other, many, thing):
    """Whether a tuple of tuples (word, whole number) is a paper, each two moments looked at."""
    had, shown = things.plain_pictures(one, many), things.plain_pictures(other, many)
    if len(thing) != many:
        return False
    for at, (word, number) in enumerate(thing):
        if word == "kept" and not (0 <= number < many and had[number] == shown[at]):
            return False
        if word == "made" and number < 0:
            return False
    return all(
        shown[at] == shown[later]
        for at in range(many) for later in range(many) if thing[at][0] == "made" and thing[at] == thing[later]
    )


def near_pairs():
    """Sheets, and what comes of them where one row is another one."""
    pairs = []
    for sheet in things.some_sheets()[::2] + things.mixed_sheets(60):
        pairs.append((sheet, sheet))
        for layer, (rows, back) in enumerate(sheet[0]):
            if rows:
                place = layer % len(rows)
                drawing, hold = rows[place]
                pairs.append((sheet, changed(sheet, layer, place, ((drawing + 1) % 10, hold))))
                pairs.append((changed(sheet, layer, place, (drawing, 25 - hold)), sheet))
    return pairs


class LeastPaper(unittest.TestCase):
    def test_by_hand(self):
        self.assertEqual(least_paper(still(1, 2, 1), still(2, 1, 3), 3), (("kept", 1), ("kept", 0), ("made", 0)))
        self.assertEqual(
            least_paper(still(1, 1, 2), still(5, 4, 1, 5, 2, 4), 6),
            (("made", 0), ("made", 1), ("kept", 0), ("made", 0), ("kept", 2), ("made", 1)),
        )
        self.assertEqual(least_paper(still(1, 2), still(3, 4), 4), (("made", 0), ("made", 1), ("kept", 2), ("kept", 2)))

    def test_only_the_first_moments_count(self):
        # The first sheet shows 2 behind the first two moments, so its plate is not among those that are kept.
        self.assertEqual(least_paper(still(1, 1, 2), still(2, 1), 2), (("made", 0), ("kept", 0)))
        self.assertEqual(least_paper(still(1, 1, 2), still(2, 1), 3), (("kept", 2), ("kept", 0), ("made", 0)))

    def test_a_sheet_and_itself(self):
        for sheet in things.some_sheets() + things.mixed_sheets(40):
            for many in (0, 1, 50, 200):
                paper = least_paper(sheet, sheet, many)
                shown = things.plain_pictures(sheet, many)
                self.assertEqual(paper, tuple(("kept", shown.index(picture)) for picture in shown))
                self.assertEqual(made_by(sheet, sheet, many, paper), 0)

    def test_sheets_that_share_no_picture(self):
        one, other = (((((1, 1), (2, 1)), 0),), STILL), (((((3, 1), (4, 1)), 0),), STILL)
        for many in (0, 1, 2, 3, 200):
            due = tuple(("made", at % 2) for at in range(many))
            self.assertEqual(least_paper(one, other, many), due)
            self.assertEqual(made_by(one, other, many, due), min(many, 2))

    def test_no_moments(self):
        for one, other in near_pairs():
            self.assertEqual(things.in_kind(least_paper(one, other, 0)), [tuple, []])
            self.assertIs(is_paper(one, other, 0, ()), True)
            self.assertEqual(made_by(one, other, 0, ()), 0)
            for thing in ([], {}, "", None, 0, (("made", 0),), ((),)):
                self.assertIs(is_paper(one, other, 0, thing), False)

    def test_sheets_near_one_another(self):
        for one, other in near_pairs():
            for many in (1, 9, 200):
                paper = least_paper(one, other, many)
                self.assertEqual(things.in_kind(paper), things.in_kind(plain_least(one, other, many)), (one, other))
                self.assertIs(is_paper(one, other, many, paper), True)
                new = set(plates(other, many)) - set(plates(one, many))
                self.assertEqual(things.in_kind(made_by(one, other, many, paper)), [int, len(new)])

    def test_none_has_fewer(self):
        pool = [still(*drawings) for drawings in product((0, 1, 2), repeat=3)]
        words = [("kept", 0), ("kept", 1), ("kept", 2), ("made", 0), ("made", 1), ("made", 2)]
        for one in pool[::4]:
            for other in pool[::3]:
                least = made_by(one, other, 3, least_paper(one, other, 3))
                papers = [thing for thing in product(words, repeat=3) if is_paper(one, other, 3, thing)]
                self.assertEqual(min(made_by(one, other, 3, paper) for paper in papers), least)

    def test_unlike_places_make_unlike_pictures(self):
        one = (((((1, 4),), None),), (0, 0, ((4, 0, 4),)))
        other = (((((1, 4),), None),), (4, 0, ((0, 0, 4),)))
        self.assertEqual(least_paper(one, other, 4), (("kept", 2), ("kept", 1), ("kept", 0), ("made", 0)))


class IsPaper(unittest.TestCase):
    ONE, OTHER = still(1, 2, 1, 3), still(2, 1, 5, 5)
    TOLD = (("kept", 1), ("kept", 0), ("made", 0), ("made", 0))

    def taken(self, thing, many_made):
        self.assertIs(is_paper(self.ONE, self.OTHER, 4, thing), True, thing)
        self.assertEqual(made_by(self.ONE, self.OTHER, 4, thing), many_made, thing)

    def not_taken(self, thing):
        self.assertIs(is_paper(self.ONE, self.OTHER, 4, thing), False, thing)
        self.assertIs(refusal(made_by, self.ONE, self.OTHER, 4, thing), errors.NoPaper, thing)

    def test_the_told_one(self):
        self.assertEqual(least_paper(self.ONE, self.OTHER, 4), self.TOLD)
        self.taken(self.TOLD, 1)

    def test_others_that_are_right(self):
        first, second, third, fourth = self.TOLD
        self.taken((first, ("kept", 2), third, fourth), 1)
        self.taken((first, second, ("made", 7), ("made", 7)), 1)
        self.taken((first, second, ("made", 7), ("made", 0)), 2)
        self.taken((first, second, ("made", FIGURES), ("made", FIGURES - 1)), 2)
        self.taken((first, second, ("made", 10 ** 40), ("made", 10 ** 40)), 1)
        self.taken((("made", 3), second, third, fourth), 2)
        self.taken((("made", 3), ("made", 2), ("made", 1), ("made", 0)), 4)
        self.taken((first, ("made", 9), third, fourth), 2)

    def test_kept_from_moments_that_do_not_show_it(self):
        first, second, third, fourth = self.TOLD
        for moment in (0, 2, 3, 4, 5, -1, -3, -4, FIGURES, -FIGURES, True, False, None, "1", (1,), [1]):
            self.not_taken((("kept", moment), second, third, fourth))
        for moment in range(-5, 6):
            self.not_taken((first, second, ("kept", moment), fourth))

    def test_a_moment_at_or_beyond_the_number(self):
        one, other = still(1, 2, 9), still(2, 1, 1)
        self.assertIs(is_paper(one, other, 2, (("kept", 1), ("kept", 0))), True)
        self.assertIs(is_paper(one, other, 1, (("kept", 1),)), False)
        self.assertIs(is_paper(one, other, 2, (("kept", 2), ("kept", 0))), False)
        for moment in (0, 1, 2, 199):
            self.assertIs(is_paper(one, one, 1, (("kept", moment),)), moment == 0)
        empty = ((((), None),), STILL)
        for many in (1, 2, 200):
            for moment in range(many):
                self.assertIs(is_paper(empty, empty, many, (("kept", moment),) * many), True)
            self.assertIs(is_paper(empty, empty, many, (("kept", many),) * many), False)
            self.assertIs(is_paper(empty, empty, many, (("kept", 0),) * (many - 1) + (("kept", many),)), False)

    def test_one_made_number_for_unlike_pictures(self):
        first, second, third, fourth = self.TOLD
        self.not_taken((("made", 0), second, third, fourth))
        self.not_taken((("made", 4), ("made", 4), third, fourth))
        self.not_taken((first, ("made", 1), ("made", 2), ("made", 1)))
        self.not_taken((("made", FIGURES), second, third, ("made", FIGURES)))

    def test_numbers_that_are_none(self):
        first, second, third, fourth = self.TOLD
        for number in (-1, -FIGURES, True, False, None, "0", "", (0,), [0], {}, ()):
            self.not_taken((first, second, ("made", number), fourth))
            self.not_taken((first, second, third, ("made", number)))

    def test_truths_are_no_numbers_though_python_takes_them_so(self):
        one, other = still(1, 2), still(2, 1)
        self.assertIs(is_paper(one, other, 2, (("kept", 1), ("kept", 0))), True)
        self.assertIs(is_paper(one, other, 2, (("kept", True), ("kept", 0))), False)
        self.assertIs(is_paper(one, other, 2, (("kept", 1), ("kept", False))), False)
        self.assertIs(is_paper(one, other, 2, (("made", True), ("made", 0))), False)

    def test_other_words(self):
        first, second, third, fourth = self.TOLD
        for word in ("", "Made", "MADE", "made ", "keep", "Kept", "kept\n", None, 0, True, ("made",), ["made"], {}):
            self.not_taken((first, second, (word, 0), fourth))
            self.not_taken(((word, 1), second, third, fourth))

    def test_one_thing_fewer_or_more(self):
        self.not_taken(self.TOLD[:-1])
        self.not_taken(self.TOLD[1:])
        self.not_taken(self.TOLD + (("made", 0),))
        self.not_taken(self.TOLD + (("kept", 0),))
        self.not_taken((self.TOLD[0],) + self.TOLD)
        self.not_taken(())
        self.not_taken((self.TOLD,))
        for at in range(4):
            for part in ((), ("made",), ("kept",), ("made", 0, 0), ("kept", 0, None), (0,), "made", 0, None):
                self.not_taken(self.TOLD[:at] + (part,) + self.TOLD[at + 1:])

    def test_a_list_in_a_tuples_place(self):
        self.not_taken(list(self.TOLD))
        for at in range(4):
            self.not_taken(self.TOLD[:at] + (list(self.TOLD[at]),) + self.TOLD[at + 1:])

    def test_things_of_whatever_kind(self):
        right = [self.TOLD[:at] + (("made", FIGURES),) + self.TOLD[at + 1:] for at in (2, 3)]
        for thing in things.STRANGE + things.spoiled(self.TOLD) + [None, (), 0, things.LAYER, things.SHEET]:
            if thing in right:
                self.taken(thing, 2)
            else:
                self.not_taken(thing)

    def test_all_papers_of_two_words(self):
        pairs = [(still(1, 2, 1), still(2, 1, 2)), (still(1, 1, 1), still(2, 2, 1)), (still(1, 2, 3), still(3, 3, 4))]
        words = [(word, number) for word in ("kept", "made") for number in (-1, 0, 1, 2, 3)]
        for one, other in pairs:
            for thing in product(words, repeat=3):
                due = plain_is_paper(one, other, 3, thing)
                self.assertIs(is_paper(one, other, 3, thing), due, (one, other, thing))
                told = things.outcome(made_by, one, other, 3, thing)
                numbers = {number for word, number in thing if word == "made"}
                self.assertEqual(told, len(numbers) if due else errors.NoPaper)

    def test_long_papers(self):
        one = (((((1, 1), (2, 1)), 0),), STILL)
        other = (((((3, 1), (2, 1)), 0),), STILL)
        for many in (199, 200):
            own = tuple(("made", number) for number in range(many))
            self.assertIs(is_paper(one, other, many, own), True)
            self.assertEqual(made_by(one, other, many, own), many)
            self.assertIs(is_paper(one, other, many, own[:-1] + (own[0],)), many % 2 == 1)


class Refused(unittest.TestCase):
    def test_unlike(self):
        for many_layers, others in product(range(1, 5), repeat=2):
            one, other = (((), None),) * many_layers, (((), None),) * others
            due = None if many_layers == others else errors.Unlike
            for many in (0, 1, 200):
                paper = (("made", 0),) * many
                self.assertIs(refusal(least_paper, (one, STILL), (other, STILL), many), due)
                self.assertIs(refusal(is_paper, (one, STILL), (other, STILL), many, paper), due)
                self.assertIs(refusal(made_by, (one, STILL), (other, STILL), many, paper), due)

    def test_unlike_whatever_the_thing(self):
        one, other = still(1), (((((1, 1),), None),) * 2, STILL)
        for thing in things.STRANGE + [None, (("made", 0),)]:
            self.assertIs(refusal(is_paper, one, other, 1, thing), errors.Unlike)

    def test_behind_all_that_stands_further_to_the_left(self):
        one, other = still(1), (((((1, 1),), None),) * 2, STILL)
        for many in things.WRONG_MANIES:
            self.assertIs(refusal(least_paper, one, other, many), errors.NoNumber)
            self.assertIs(refusal(is_paper, one, other, many, ()), errors.NoNumber)
            self.assertIs(refusal(made_by, one, other, many, None), errors.NoNumber)
        for asked, rest in ((least_paper, ()), (is_paper, ((),)), (made_by, (None,))):
            self.assertIs(refusal(asked, None, other, 201, *rest), errors.NoSheet)
            self.assertIs(refusal(asked, one, None, 201, *rest), errors.NoSheet)
            self.assertIs(refusal(asked, one, one, 201, *rest), errors.NoNumber)
