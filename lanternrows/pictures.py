"""What layers show, where windows stand, and the pictures of sheets."""

from lanternrows.sheets import held, need_layer, need_sheet, need_window
from lanternrows.wholes import need_moment, need_number

MOST_PICTURES = 200


def first_time(rows, back, moment):
    """The moment of the first time round at which rows show what they show at this one."""
    ahead = held(rows[:back])
    around = held(rows[back:])
    return moment if moment < ahead else ahead + (moment - ahead) % around


def drawing_of(layer, moment):
    """What is surely a layer shows this at a moment, however late."""
    rows, back = layer
    left = moment if back is None else first_time(rows, back, moment)
    for drawing, hold in rows:
        if left < hold:
            return drawing
        left -= hold
    return 0


def common_divisor(one, other):
    """The greatest number that divides two numbers, none below 0 and not both 0."""
    while other:
        one, other = other, one % other
    return one


def lowest(top, bottom):
    """The fraction that is top through bottom, bottom from 1 on."""
    divisor = common_divisor(abs(top), bottom)
    return (top // divisor, bottom // divisor)


def on_the_way(start, goal, step, many):
    """The fraction that stands step many-ths of the way from start to goal."""
    return lowest(start * many + (goal - start) * step, many)


def place_of(window, moment):
    """Where what is surely a window stands at a moment, however late."""
    x, y, moves = window
    left = moment
    for goal_x, goal_y, many in moves:
        if left < many:
            step = left + 1
            return (on_the_way(x, goal_x, step, many), on_the_way(y, goal_y, step, many))
        left -= many
        x, y = goal_x, goal_y
    return ((x, 1), (y, 1))


def picture_of(sheet, moment):
    """The picture of what is surely a sheet at a moment, however late."""
    layers, window = sheet
    drawings = tuple([drawing_of(layer, moment) for layer in layers])
    return (drawings, place_of(window, moment))


def pictures_of(sheet, moment, many):
    """The list of so many pictures of what is surely a sheet from a moment on."""
    return [picture_of(sheet, moment + ahead) for ahead in range(many)]


def drawing_at(layer, moment):
    """What a layer shows at a moment."""
    need_layer(layer)
    need_moment(moment)
    return drawing_of(layer, moment)


def place_at(window, moment):
    """Where a window stands at a moment: two fractions."""
    need_window(window)
    need_moment(moment)
    return place_of(window, moment)


def picture_at(sheet, moment):
    """The picture of a sheet at a moment."""
    need_sheet(sheet)
    need_moment(moment)
    return picture_of(sheet, moment)


def pictures_from(sheet, moment, many):
    """The list of so many pictures of a sheet from a moment on."""
    need_sheet(sheet)
    need_moment(moment)
    need_number(many, 0, MOST_PICTURES)
    # The last ones may stand behind the last moment that may be handed in.
    return pictures_of(sheet, moment, many)
