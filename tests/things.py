"""What several tests hand in, and plain laying, against which they hold what is told."""

from fractions import Fraction
from itertools import product
from random import Random

from lanternrows import errors

GREAT = 10 ** 9
FIGURES = 10 ** 30 - 1


def deep(many, made):
    thing = made([])
    for turn in range(many - 1):
        thing = made([thing])
    return thing


# Right in no place of a layer, a window, a sheet, a row or a move.
STRANGE = [
    True, False, FIGURES, -FIGURES, "", "0", "ab", "abc", "~" * 200, [], {}, [1], [0, 1], [0, 0, []],
    {0: 0, 1: 1}, {"rows": [], "back": None}, (None,), (0,), (0, 0, 0, 0), ((),), ("a", "b"), (None, None),
    ([], {}), (True, True), (1, False), ([[]], None), (0, {}, ()), deep(7, list), deep(7, tuple), [0] * 399,
    (0,) * 399, {number: None for number in range(199)},
]

ROW = (5, 7)
MOVE = (3, -4, 6)
LAYER = (((1, 2), (0, 24), (9, 1)), 1)
WINDOW = (-20, 20, ((1, -1, 3), (0, 0, 0), (20, -20, 24)))
SHEET = ((LAYER, ((), None), (((4, 4),), 0)), WINDOW)


def places(thing):
    """The ways to each part of a tuple, itself first."""
    ways = [()]
    if isinstance(thing, tuple):
        for at, part in enumerate(thing):
            ways += [(at,) + way for way in places(part)]
    return ways


def part(thing, way):
    for at in way:
        thing = thing[at]
    return thing


def replaced(thing, way, new):
    """The thing with another part in this one place."""
    if not way:
        return new
    at = way[0]
    return thing[:at] + (replaced(thing[at], way[1:], new),) + thing[at + 1:]


def spoiled(thing):
    """All that comes of a thing where one place is strange, or a tuple is a list or a dict."""
    wrong = []
    for way in places(thing):
        wrong += [replaced(thing, way, strange) for strange in STRANGE]
        old = part(thing, way)
        if isinstance(old, tuple):
            wrong.append(replaced(thing, way, list(old)))
            wrong.append(replaced(thing, way, dict(enumerate(old))))
            wrong.append(replaced(thing, way, None))
            wrong.append(replaced(thing, way, 0))
    return wrong


def longer_and_shorter(thing):
    """A tuple of a fixed size, with one part more or less."""
    return [thing[:-1], thing[1:], thing + (None,), thing + (0,), thing + ((),), (0,) + thing, (thing,)]


WRONG_ROWS = [(-1, 1), (10, 1), (0, 0), (0, 25), (0, -1), (None, 1), (1, None), (1, True), (False, 1), [1, 1], (), None]
WRONG_ROWS += longer_and_shorter(ROW) + ["11", {1: 1, 2: 2}, 1, ((1, 1), 1), (1, (1,))]
WRONG_MOVES = [(-21, 0, 1), (21, 0, 1), (0, -21, 1), (0, 21, 1), (0, 0, -1), (0, 0, 25), [0, 0, 1], (), None]
WRONG_MOVES += [(None, 0, 1), (0, None, 1), (0, 0, None), (True, 0, 1), (0, False, 1), (0, 0, True), (0, 0, ())]
WRONG_MOVES += longer_and_shorter(MOVE) + ["000", {0: 0, 1: 0, 2: 1}, 0]


def wrong_layers():
    row = (1, 1)
    wrong = [((), 0), ((), -1), ((row,), 1), ((row,), -1), ((row,), True), ((row,), False), ((row, row), 2)]
    wrong += [((row, row), True), ((row, row), ()), ((row, row), (0,)), ((row, row), "0"), ((row,) * 9, None)]
    wrong += [((row,) * 9, 0), ((row,) * 9, 8), ((row,) * 8, 8), ((row,) * 8, -1), (row, None), (None, None), (row,)]
    for bad in WRONG_ROWS:
        wrong += [((bad,), None), ((row, bad), None), ((bad, row), 1), ((row,) * 7 + (bad,), 0)]
    return wrong + STRANGE + spoiled(LAYER) + longer_and_shorter(LAYER) + [None, (), 0, ROW, WINDOW, SHEET]


def wrong_windows():
    wrong = [(x, 0, ()) for x in (-21, 21, None, True, False)] + [(0, y, ()) for y in (-21, 21, None, True, False)]
    wrong += [(0, 0, (MOVE,) * 9), (0, 0, ((0, 0, 0),) * 9), (0, 0, MOVE), (0, 0, None), (0, 0, 0)]
    for bad in WRONG_MOVES:
        wrong += [(0, 0, (bad,)), (0, 0, (MOVE, bad)), (0, 0, (bad, MOVE)), (0, 0, (MOVE,) * 7 + (bad,))]
    return wrong + STRANGE + spoiled(WINDOW) + longer_and_shorter(WINDOW) + [None, (), 0, ROW, LAYER, SHEET, MOVE]


def wrong_sheets():
    layer = ((), None)
    window = (0, 0, ())
    wrong = [((), window), ((layer,) * 5, window), ((layer,) * 9, window), (layer, window), (None, window)]
    wrong += [((layer,), None), ((layer,), ()), (window, (layer,)), ((window,), window), ((layer,), (layer,))]
    for bad in wrong_layers():
        wrong += [((bad,), window), ((layer, bad), window), ((bad, layer), window), ((layer,) * 3 + (bad,), window)]
    for bad in wrong_windows():
        wrong += [((layer,), bad)]
    return wrong + STRANGE + spoiled(SHEET) + longer_and_shorter(SHEET) + [None, (), 0, ROW, LAYER, WINDOW]


WRONG_NUMBERS = STRANGE + [None, (), -1, ROW, LAYER]
WRONG_MOMENTS = WRONG_NUMBERS + [GREAT + 1, GREAT + 200, 2 * GREAT]
WRONG_MANIES = WRONG_NUMBERS + [201, 202, 1000, GREAT]
# Of these, too, none is the number of pictures to which something is retimed.
WRONG_TIMES = WRONG_MANIES + [0, -200]


def wrong_drawings():
    """What may not be folded; of STRANGE, three are lists of drawings."""
    wrong = [strange for strange in STRANGE if strange not in ([], [1], [0, 1])]
    wrong += [None, (), (1,), (1, 2), "", "12", 0, 1, {1: 2}, [0] * 201, [9] * 202, [1, 2] * 200, ROW, LAYER, SHEET]
    for bad in (True, False, -1, 10, 11, FIGURES, -FIGURES, None, "1", "", [], [1], (), (1,), {}, (1, 1)):
        wrong += [[bad], [1, bad], [bad, 1], [0] * 199 + [bad], [bad] + [9] * 199, [bad] * 3]
    return wrong


def small_layers():
    """Layers of none to three rows, with each back that they may have."""
    layers = []
    for many in range(4):
        for rows in product([(0, 1), (1, 1), (2, 2), (1, 3)], repeat=many):
            layers += [(rows, back) for back in [None, *range(many)]]
    return layers


def full_layers():
    """Layers of eight rows, with each back that they may have."""
    uneven = ((1, 24), (2, 1), (0, 3), (9, 24), (9, 2), (3, 7), (8, 5), (1, 1))
    return [(rows, back) for rows in (uneven, uneven[::-1], ((7, 24),) * 8) for back in [None, *range(8)]]


def small_windows():
    """Windows of none to three moves."""
    pool = [(0, 0, 0), (1, -1, 2), (-20, 20, 5), (7, 3, 4), (-7, 0, 1), (20, -20, 0)]
    windows = []
    for many in range(4):
        for moves in product(pool, repeat=many):
            windows += [(x, y, moves) for x, y in ((0, 0), (-20, 20), (3, -8))]
    return windows


def full_windows():
    """Windows of eight moves."""
    back_and_forth = ((20, -20, 24), (-20, 20, 24)) * 4
    uneven = ((-1, 1, 0), (0, 0, 7), (0, 5, 0), (3, -19, 9), (3, -19, 2), (-2, 2, 0), (1, 1, 0), (20, 0, 11))
    return [(0, 0, back_and_forth), (20, 20, uneven), (-20, -3, uneven[::-1]), (4, -4, ((4, -4, 0),) * 8)]


def plain_drawings(layer, many):
    """What a layer shows at its first moments, laid picture by picture."""
    rows, back = layer
    shown = []
    for drawing, hold in rows:
        shown += [drawing] * hold
    while len(shown) < many and back is not None:
        for drawing, hold in rows[back:]:
            shown += [drawing] * hold
    return (shown + [0] * many)[:many]


def late_drawing(layer, moment):
    """What a layer shows at a moment that is too late to be laid picture by picture."""
    rows, back = layer
    if back is None:
        return 0
    around = []
    for drawing, hold in rows[back:]:
        around += [drawing] * hold
    return around[(moment - sum(hold for drawing, hold in rows)) % len(around)]


def written(number):
    return (number.numerator, number.denominator)


def plain_places(window, many):
    """Where a window stands at its first moments, laid picture by picture."""
    x, y, moves = window
    stood = []
    for goal_x, goal_y, pictures in moves:
        for count in range(1, pictures + 1):
            way = Fraction(count, pictures)
            stood.append((written(x + (goal_x - x) * way), written(y + (goal_y - y) * way)))
        x, y = goal_x, goal_y
    return (stood + [((x, 1), (y, 1))] * many)[:many]


def plain_pictures(sheet, many):
    """The pictures of a sheet at its first moments, laid picture by picture."""
    layers, window = sheet
    shown = [plain_drawings(layer, many) for layer in layers]
    return [(tuple(row[at] for row in shown), place) for at, place in enumerate(plain_places(window, many))]


def some_sheets():
    """Sheets of one to four layers, with windows of all sorts."""
    layers = small_layers()[::7] + full_layers()[::2]
    windows = small_windows()[::9] + full_windows()
    sheets = []
    for at, window in enumerate(windows):
        many = at % 4 + 1
        sheets.append((tuple(layers[(at * 5 + turn * 11) % len(layers)] for turn in range(many)), window))
    return sheets


def in_kind(thing):
    """The thing with the kind of each part, so that True and 1 are told apart."""
    if isinstance(thing, (list, tuple)):
        return [type(thing), [in_kind(inner) for inner in thing]]
    return [type(thing), thing]


def refused(asked, *handed):
    """The refusal, None where there is none."""
    try:
        asked(*handed)
    except errors.LanternError as error:
        return error
    return None


def refusal(asked, *handed):
    """The class of the refusal, None where there is none."""
    error = refused(asked, *handed)
    return None if error is None else type(error)


def straight_layers():
    """Layers with a length, of all sorts."""
    return [layer for layer in small_layers() + full_layers() + mixed_layers(60) if layer[1] is None]


def mixed_layers(many, most_rows=8, most_hold=24):
    """Layers without any order in them, the same ones each time."""
    chance = Random(many)
    layers = []
    for turn in range(many):
        size = chance.randint(0, most_rows)
        pool = chance.choice(((0, 1), (1, 2), (0, 1, 2), tuple(range(10))))
        holds = chance.choice(((1, 2), (1, most_hold), (1, 3)))
        rows = tuple((chance.choice(pool), chance.randint(*holds)) for row in range(size))
        layers.append((rows, chance.choice([None, *range(size)])))
    return layers


def mixed_windows(many, most_moves=8):
    """Windows without any order in them, the same ones each time."""
    chance = Random(many)
    windows = []
    for turn in range(many):
        ways = chance.choice(((0,), (0, 1), (-20, 0, 20), tuple(range(-20, 21))))
        manies = chance.choice(((0, 0), (0, 1), (0, 3), (0, 24)))
        moves = [(chance.choice(ways), chance.choice(ways), chance.randint(*manies))
                 for move in range(chance.randint(0, most_moves))]
        windows.append((chance.choice(ways), chance.choice(ways), tuple(moves)))
    return windows


def mixed_sheets(many, most_rows=8, most_hold=24, most_moves=8):
    """Sheets of one to four layers without any order in them, the same ones each time."""
    layers = mixed_layers(many * 4, most_rows, most_hold)
    windows = mixed_windows(many, most_moves)
    return [(tuple(layers[at * 4:at * 4 + at % 4 + 1]), window) for at, window in enumerate(windows)]


def straight(sheet):
    """The sheet whose layers go round no more."""
    layers, window = sheet
    return (tuple((rows, None) for rows, back in layers), window)


def plain_length(sheet):
    """The length of a sheet of which no layer goes round."""
    layers, (x, y, moves) = sheet
    return max([sum(hold for drawing, hold in rows) for rows, back in layers] + [sum(move[2] for move in moves)])


def outcome(asked, *handed):
    """What is told; where it is refused, the class of the refusal, and its fields if it has some."""
    error = refused(asked, *handed)
    if error is None:
        return asked(*handed)
    if isinstance(error, errors.TooMany):
        return (errors.TooMany, error.many, error.most)
    return type(error)
