"""A roll of deeds that make a sheet, of which one out of the midst is undone where none leans on it."""

from lanternrows.errors import Leaned, NoDeed, NoNumber
from lanternrows.sheets import MOST_LAYERS, MOST_MOVES, MOST_ROWS, is_drawing, is_hold, is_many, is_way
from lanternrows.wholes import is_whole_from, need_at_most

# What stands behind the word of each deed.
PARTS = {
    "layer": (),
    "row": ("layer", "drawing", "hold"),
    "draw": ("row", "drawing"),
    "hold": ("row", "hold"),
    "drop": ("row",),
    "round": ("row",),
    "straight": ("layer",),
    "move": ("way", "way", "many"),
}


def is_plain_part(part, thing):
    """Whether a thing of whatever kind may stand for a part of a deed that names nothing made."""
    if part == "drawing":
        return is_drawing(thing)
    if part == "hold":
        return is_hold(thing)
    if part == "way":
        return is_way(thing)
    return is_many(thing)


def named(deed):
    """The number of the deed that made what this one names, None where it names nothing."""
    return None if deed[0] in ("layer", "move") else deed[1]


class Made:
    """What deeds make, one behind another; layers and rows go by the numbers of the deeds that made them."""

    def __init__(self):
        self.layers = []
        self.rows = {}
        self.backs = {}
        self.moves = []

    def twin(self):
        """Another one, in which the same is made."""
        other = Made()
        other.layers = list(self.layers)
        other.rows = dict(self.rows)
        other.backs = dict(self.backs)
        other.moves = list(self.moves)
        return other

    def fits(self, part, thing):
        """Whether a thing of whatever kind may stand for this part of a deed."""
        if part == "layer":
            return is_whole_from(thing, 0) and thing in self.layers
        if part == "row":
            return is_whole_from(thing, 0) and thing in self.rows
        return is_plain_part(part, thing)

    def takes(self, thing):
        """Whether a thing of whatever kind is a deed that names what is here."""
        if not isinstance(thing, tuple) or not thing or not isinstance(thing[0], str):
            return False
        word, *told = thing
        if word not in PARTS or len(told) != len(PARTS[word]):
            return False
        return all([self.fits(part, given) for part, given in zip(PARTS[word], told)])

    def follow(self, number, deed):
        """Do a deed of this number, however many of a kind there will be."""
        word = deed[0]
        if word == "layer":
            self.layers.append(number)
        elif word == "row":
            self.rows[number] = deed[1:]
        elif word == "straight":
            self.backs[deed[1]] = None
        elif word == "move":
            self.moves.append(deed[1:])
        else:
            self.follow_row(word, deed[1], deed[-1])

    def follow_row(self, word, row, new):
        """Do a deed that names a row; new is the drawing or the hold that comes, if any."""
        layer, drawing, hold = self.rows[row]
        if word == "draw":
            self.rows[row] = (layer, new, hold)
        elif word == "hold":
            self.rows[row] = (layer, drawing, new)
        elif word == "round":
            self.backs[layer] = row
        else:
            del self.rows[row]

    def rows_in(self, layer):
        """The list of the numbers of a layer's rows, in their order."""
        return [row for row in self.rows if self.rows[row][0] == layer]

    def need_room(self):
        """Refuse more layers, rows of a layer or moves than may be."""
        need_at_most(len(self.layers), MOST_LAYERS)
        for layer in self.layers:
            need_at_most(len(self.rows_in(layer)), MOST_ROWS)
        need_at_most(len(self.moves), MOST_MOVES)

    def layer_made(self, layer):
        """The layer of this number, as a sheet has it."""
        numbers = self.rows_in(layer)
        back = self.backs.get(layer)
        rows = tuple([self.rows[number][1:] for number in numbers])
        # A row that is gone still stands in backs: when its drop is undone, the layer goes round from it again.
        return (rows, numbers.index(back) if back in numbers else None)

    def sheet_made(self):
        """The sheet, None where there is no layer."""
        if not self.layers:
            return None
        return (tuple([self.layer_made(layer) for layer in self.layers]), (0, 0, tuple(self.moves)))


def made_anew(deeds):
    """What deeds make, done one behind another from the first one on."""
    made = Made()
    for number, deed in deeds.items():
        made.follow(number, deed)
    return made


class Roll:
    """Deeds that make a sheet, numbered from 0 on in the order in which they are done."""

    def __init__(self):
        self.deeds = {}
        self.made = Made()
        # Numbers of deeds that are undone are not told again, so the standing deeds do not tell the next one.
        self.numbered = 0

    def need_standing(self, number):
        """Refuse what is not the number of a standing deed."""
        if not is_whole_from(number, 0) or number not in self.deeds:
            raise NoNumber("no deed of this number stands")

    def put(self, deed):
        """Do a deed; told is its number."""
        if not self.made.takes(deed):
            raise NoDeed("this is no deed, or it names what there is not")
        number = self.numbered
        made = self.made.twin()
        made.follow(number, deed)
        made.need_room()
        self.deeds[number] = deed
        self.made = made
        self.numbered = number + 1
        return number

    def sheet_now(self):
        """The sheet that the standing deeds make, None where no layer stands."""
        return self.made.sheet_made()

    def standing(self):
        """The rising list of the tuples (number, deed) of the standing deeds."""
        return list(self.deeds.items())

    def leaning(self, number):
        """The rising list of the numbers of the standing deeds that lean on a standing one."""
        self.need_standing(number)
        return [later for later, deed in self.deeds.items() if named(deed) == number]

    def undo(self, number):
        """Undo a standing deed on which none leans."""
        numbers = tuple(self.leaning(number))
        if numbers:
            raise Leaned(numbers)
        deeds = {other: deed for other, deed in self.deeds.items() if other != number}
        made = made_anew(deeds)
        made.need_room()
        self.deeds = deeds
        self.made = made
