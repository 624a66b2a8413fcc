"""Sheets set behind and beside one another."""

from lanternrows.sheets import (
    MOST_HOLD, MOST_LAYERS, MOST_MANY, MOST_MOVES, MOST_ROWS, full_length, held, moved, need_as_many_layers,
    need_length, need_sheet,
)
from lanternrows.wholes import need_at_most


def filling(many, most):
    """The list of numbers that are so many together: as many of the most as fit, and the rest, if any."""
    full, rest = divmod(many, most)
    return [most] * full + ([rest] if rest else [])


def rows_for(rows, length):
    """Rows, and behind them rows of nothing up to the length."""
    return rows + tuple([(0, hold) for hold in filling(length - held(rows), MOST_HOLD)])


def layer_behind(one, other, length):
    """The layer that shows one for the length and then the other, with however many rows."""
    rows, back = other
    ahead = rows_for(one[0], length)
    return (ahead + rows, None if back is None else len(ahead) + back)


def moves_for(window, length):
    """The moves of a window, and behind them moves to where it stands by then up to the length."""
    x, y, moves = window
    if moves:
        x, y = moves[-1][:2]
    return moves + tuple([(x, y, many) for many in filling(length - moved(window), MOST_MANY)])


def window_behind(one, other, length):
    """The window that stands where one does for the length and then where the other does, with however many moves."""
    x, y, moves = other
    return (one[0], one[1], moves_for(one, length) + ((x, y, 0),) + moves)


def behind(one, other):
    """The sheet that shows the first one for its length, and the second one behind it."""
    need_sheet(one)
    need_sheet(other)
    need_as_many_layers(one, other)
    length = full_length(one)
    need_length(length)
    layers = tuple([layer_behind(first, second, length) for first, second in zip(one[0], other[0])])
    window = window_behind(one[1], other[1], length)
    for rows, back in layers:
        need_at_most(len(rows), MOST_ROWS)
    need_at_most(len(window[2]), MOST_MOVES)
    return (layers, window)


def beside(one, other):
    """The sheet with the layers of the first one, behind them those of the second one, and the first one's window."""
    need_sheet(one)
    need_sheet(other)
    layers = one[0] + other[0]
    need_at_most(len(layers), MOST_LAYERS)
    return (layers, one[1])
