"""Layers laid out drawing by drawing, and drawings folded into a layer."""

from lanternrows.errors import NoDrawings
from lanternrows.pictures import MOST_PICTURES
from lanternrows.sheets import MOST_HOLD, MOST_ROWS, is_drawing, need_layer
from lanternrows.wholes import need_at_most, need_number


def drawings_of(rows):
    """The list of the drawings that rows show, each as often as it is held."""
    return [drawing for drawing, hold in rows for turn in range(hold)]


def ahead_and_around(layer):
    """What is surely a layer shows the first list once, and the second one again and again behind it."""
    rows, back = layer
    if back is None:
        return (drawings_of(rows), [0])
    return (drawings_of(rows[:back]), drawings_of(rows[back:]))


def first_drawings(layer, many):
    """The list of what is surely a layer shows at its first moments, however many."""
    ahead, around = ahead_and_around(layer)
    times = max(0, many - len(ahead)) // len(around) + 1
    return (ahead + around * times)[:many]


def laid(layer, many):
    """The list of the drawings that a layer shows at its first so many moments."""
    need_layer(layer)
    need_number(many, 0, MOST_PICTURES)
    return first_drawings(layer, many)


def are_drawings(thing):
    """Whether a thing of whatever kind is a list of drawings, of no more than may be folded."""
    if not isinstance(thing, list) or len(thing) > MOST_PICTURES:
        return False
    return all([is_drawing(drawing) for drawing in thing])


def runs_of(drawings):
    """The list of the tuples (drawing, many) of like drawings side by side."""
    runs = []
    for drawing in drawings:
        if runs and runs[-1][0] == drawing:
            runs[-1] = (drawing, runs[-1][1] + 1)
        else:
            runs.append((drawing, 1))
    return runs


def rows_of_run(drawing, many):
    """The list of the fewest rows that hold one drawing for so many pictures."""
    full, rest = divmod(many - 1, MOST_HOLD)
    # The short row goes ahead of the full ones: so the tuple comes first as tuples compare.
    return [(drawing, rest + 1)] + [(drawing, MOST_HOLD)] * full


def folded(drawings):
    """The layer of the fewest rows that is as long as the list and shows just these drawings."""
    if not are_drawings(drawings):
        raise NoDrawings(f"a list of at most {MOST_PICTURES} drawings is needed")
    rows = [row for drawing, many in runs_of(drawings) for row in rows_of_run(drawing, many)]
    need_at_most(len(rows), MOST_ROWS)
    return (tuple(rows), None)
