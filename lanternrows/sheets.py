"""What layers, windows and sheets are, and how long they are."""

from lanternrows.errors import Endless, NoLayer, NoRow, NoSheet, NoWindow, Unlike
from lanternrows.wholes import is_whole

MOST_DRAWING = 9
MOST_HOLD = 24
MOST_ROWS = 8
MOST_WAY = 20
MOST_MANY = 24
MOST_MOVES = 8
MOST_LAYERS = 4


def is_tuple(thing, least, most):
    """Whether a thing is a tuple of at least and at most so many parts."""
    return isinstance(thing, tuple) and least <= len(thing) <= most


def is_drawing(thing):
    """Whether a thing of whatever kind is a drawing."""
    return is_whole(thing, 0, MOST_DRAWING)


def is_hold(thing):
    """Whether a thing of whatever kind is for how many pictures a row may be held."""
    return is_whole(thing, 1, MOST_HOLD)


def is_row(thing):
    """Whether a thing of whatever kind is a row."""
    if not is_tuple(thing, 2, 2):
        return False
    drawing, hold = thing
    return is_drawing(drawing) and is_hold(hold)


def is_layer(thing):
    """Whether a thing of whatever kind is a layer."""
    if not is_tuple(thing, 2, 2):
        return False
    rows, back = thing
    if not is_tuple(rows, 0, MOST_ROWS) or not all([is_row(row) for row in rows]):
        return False
    return back is None or is_whole(back, 0, len(rows) - 1)


def is_way(thing):
    """Whether a thing of whatever kind is an x or a y to which a window may move."""
    return is_whole(thing, -MOST_WAY, MOST_WAY)


def is_many(thing):
    """Whether a thing of whatever kind is how many pictures a move may take."""
    return is_whole(thing, 0, MOST_MANY)


def is_move(thing):
    """Whether a thing of whatever kind is a move of a window."""
    if not is_tuple(thing, 3, 3):
        return False
    x, y, many = thing
    return is_way(x) and is_way(y) and is_many(many)


def is_window(thing):
    """Whether a thing of whatever kind is a window."""
    if not is_tuple(thing, 3, 3):
        return False
    x, y, moves = thing
    if not is_way(x) or not is_way(y) or not is_tuple(moves, 0, MOST_MOVES):
        return False
    return all([is_move(move) for move in moves])


def is_sheet(thing):
    """Whether a thing of whatever kind is a sheet."""
    if not is_tuple(thing, 2, 2):
        return False
    layers, window = thing
    if not is_tuple(layers, 1, MOST_LAYERS):
        return False
    return all([is_layer(layer) for layer in layers]) and is_window(window)


def need_row(thing):
    """Refuse what is no row."""
    if not is_row(thing):
        raise NoRow("a row is a tuple (drawing, hold)")


def need_layer(thing):
    """Refuse what is no layer."""
    if not is_layer(thing):
        raise NoLayer("a layer is a tuple (rows, back)")


def need_window(thing):
    """Refuse what is no window."""
    if not is_window(thing):
        raise NoWindow("a window is a tuple (x, y, moves)")


def need_sheet(thing):
    """Refuse what is no sheet."""
    if not is_sheet(thing):
        raise NoSheet("a sheet is a tuple (layers, window)")


def need_as_many_layers(one, other):
    """Refuse two sheets that have not as many layers as one another."""
    if len(one[0]) != len(other[0]):
        raise Unlike("both sheets need as many layers")


def need_length(length):
    """Refuse the length of what goes round."""
    if length is None:
        raise Endless("what goes round has no length")


def held(rows):
    """For how many pictures rows are held together."""
    return sum([hold for drawing, hold in rows])


def length_of(layer):
    """The length of what is surely a layer."""
    rows, back = layer
    return held(rows) if back is None else None


def moved(window):
    """For how many pictures what is surely a window moves."""
    x, y, moves = window
    return sum([many for goal_x, goal_y, many in moves])


def full_length(sheet):
    """The length of what is surely a sheet."""
    layers, window = sheet
    lengths = [length_of(layer) for layer in layers]
    if None in lengths:
        return None
    return max(lengths + [moved(window)])


def layer_length(layer):
    """The length of a layer, None where it goes round."""
    need_layer(layer)
    return length_of(layer)


def window_length(window):
    """The length of a window."""
    need_window(window)
    return moved(window)


def sheet_length(sheet):
    """The length of a sheet, None where one of its layers goes round."""
    need_sheet(sheet)
    return full_length(sheet)
