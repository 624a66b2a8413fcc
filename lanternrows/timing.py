"""Layers and sheets retimed: the same drawings in the same order, held for other numbers of pictures."""

from lanternrows.errors import Squeezed
from lanternrows.pictures import MOST_PICTURES
from lanternrows.sheets import MOST_HOLD, full_length, length_of, need_layer, need_length, need_sheet
from lanternrows.wholes import need_at_most, need_number


def need_time(length, many):
    """Refuse a number to which nothing is retimed, then a length that is none, then one of no pictures."""
    need_number(many, 1, MOST_PICTURES)
    need_length(length)
    if length == 0:
        raise Squeezed("there are no pictures to retime")


def need_fitting(layers, moves):
    """Refuse layers of which a row is held too shortly, then a row or a move that takes too many pictures."""
    holds = [hold for rows, back in layers for drawing, hold in rows]
    if any([hold < 1 for hold in holds]):
        raise Squeezed("a row would have less than one picture")
    # A row and a move may take as many as one another, so the greatest number decides.
    need_at_most(max(holds + [pictures for x, y, pictures in moves]), MOST_HOLD)


def even_holds(parts, many):
    """The list of so many holds that are many together, the greater ones first."""
    return [(many - at + parts - 1) // parts for at in range(parts)]


def scaled(numbers, length, many):
    """The list of numbers whose sums, one by one, are those of the given ones times many through the length."""
    told = []
    end = 0
    last = 0
    for number in numbers:
        end += number
        new = end * many // length
        told.append(new - last)
        last = new
    return told


def layer_with(layer, holds):
    """The layer with these holds in the place of its own."""
    rows, back = layer
    return (tuple(zip([drawing for drawing, hold in rows], holds)), back)


def scaled_layer(layer, length, many):
    """The layer whose rows end where they do, times many through the length."""
    return layer_with(layer, scaled([hold for drawing, hold in layer[0]], length, many))


def scaled_window(window, length, many):
    """The window whose moves end where they do, times many through the length."""
    x, y, moves = window
    numbers = scaled([pictures for goal_x, goal_y, pictures in moves], length, many)
    new = [(goal_x, goal_y, number) for (goal_x, goal_y, pictures), number in zip(moves, numbers)]
    return (x, y, tuple(new))


def evened(layer, many):
    """The layer whose holds are so many together, shared out evenly."""
    need_layer(layer)
    need_time(length_of(layer), many)
    told = layer_with(layer, even_holds(len(layer[0]), many))
    need_fitting((told,), ())
    return told


def retimed(layer, many):
    """The layer retimed to so many pictures, each hold less than one picture off its own share."""
    need_layer(layer)
    length = length_of(layer)
    need_time(length, many)
    told = scaled_layer(layer, length, many)
    need_fitting((told,), ())
    return told


def sheet_retimed(sheet, many):
    """The sheet retimed to so many pictures, layers and window alike by its own length."""
    need_sheet(sheet)
    length = full_length(sheet)
    need_time(length, many)
    layers = tuple([scaled_layer(layer, length, many) for layer in sheet[0]])
    window = scaled_window(sheet[1], length, many)
    need_fitting(layers, window[2])
    return (layers, window)
