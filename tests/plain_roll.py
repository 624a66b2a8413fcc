"""What a roll should tell, read off the list of its standing deeds, against which the tests hold it."""

from random import Random

from lanternrows import errors
from lanternrows.roll import Roll
from tests import things

NOTHING_NAMED = ("layer", "move")


def is_between(thing, least, most):
    return type(thing) is int and least <= thing <= most


def of_word(standing, word):
    return [(number, deed) for number, deed in standing if deed[0] == word]


def layer_numbers(standing):
    return [number for number, deed in of_word(standing, "layer")]


def gone_numbers(standing):
    return [deed[1] for number, deed in of_word(standing, "drop")]


def row_numbers(standing, layer=None):
    """The numbers of the rows that are not gone, of one layer or of all."""
    gone = gone_numbers(standing)
    return [
        number for number, deed in of_word(standing, "row")
        if number not in gone and (layer is None or deed[1] == layer)
    ]


def last_of(standing, word, row, own):
    told = [deed[2] for number, deed in of_word(standing, word) if deed[1] == row]
    return told[-1] if told else own


def plain_row(standing, row):
    drawing, hold = dict(standing)[row][2:]
    return (last_of(standing, "draw", row, drawing), last_of(standing, "hold", row, hold))


def plain_back(standing, layer):
    deeds = dict(standing)
    turns = [
        deed for number, deed in standing
        if deed == ("straight", layer) or deed[0] == "round" and deeds[deed[1]][1] == layer
    ]
    rows = row_numbers(standing, layer)
    if turns and turns[-1][0] == "round" and turns[-1][1] in rows:
        return rows.index(turns[-1][1])
    return None


def plain_sheet(standing):
    layers = tuple(
        (tuple(plain_row(standing, row) for row in row_numbers(standing, layer)), plain_back(standing, layer))
        for layer in layer_numbers(standing)
    )
    moves = tuple(deed[1:] for number, deed in of_word(standing, "move"))
    return (layers, (0, 0, moves)) if layers else None


def plain_leaning(standing, number):
    return [later for later, deed in standing if deed[0] not in NOTHING_NAMED and deed[1] == number]


def plain_is_deed(standing, thing):
    if type(thing) is not tuple or not thing:
        return False
    word, parts = thing[0], thing[1:]
    layers, rows = layer_numbers(standing), row_numbers(standing)
    checks = {
        "layer": [],
        "row": [lambda it: it in layers, lambda it: it in range(10), lambda it: it in range(1, 25)],
        "draw": [lambda it: it in rows, lambda it: it in range(10)],
        "hold": [lambda it: it in rows, lambda it: it in range(1, 25)],
        "drop": [lambda it: it in rows],
        "round": [lambda it: it in rows],
        "straight": [lambda it: it in layers],
        "move": [lambda it: it in range(-20, 21), lambda it: it in range(-20, 21), lambda it: it in range(25)],
    }
    if type(word) is not str or word not in checks or len(parts) != len(checks[word]):
        return False
    return all(type(part) is int and check(part) for part, check in zip(parts, checks[word]))


def plain_put(standing, thing):
    """The refusal that is due for a deed, None where it is done."""
    if not plain_is_deed(standing, thing):
        return errors.NoDeed
    if thing[0] == "layer" and len(layer_numbers(standing)) == 4:
        return (errors.TooMany, 5, 4)
    if thing[0] == "row" and len(row_numbers(standing, thing[1])) == 8:
        return (errors.TooMany, 9, 8)
    if thing[0] == "move" and len(of_word(standing, "move")) == 8:
        return (errors.TooMany, 9, 8)
    return None


def plain_undo(standing, number):
    """The refusal that is due where a deed is to be undone, None where it is."""
    deeds = dict(standing)
    if type(number) is not int or number not in deeds:
        return errors.NoNumber
    leaning = plain_leaning(standing, number)
    if leaning:
        return (errors.Leaned, tuple(leaning))
    if deeds[number][0] == "drop" and len(row_numbers(standing, deeds[deeds[number][1]][1])) == 8:
        return (errors.TooMany, 9, 8)
    return None


def due_refusal(asked, *handed):
    """The refusal with its fields, as the functions above tell it, None where there is none."""
    error = things.refused(asked, *handed)
    if isinstance(error, errors.TooMany):
        return (errors.TooMany, error.many, error.most)
    if isinstance(error, errors.Leaned):
        return (errors.Leaned, error.numbers)
    return None if error is None else type(error)


def some_deed(chance, standing, last):
    """A deed that is mostly right, of the numbers that there are."""
    layers, rows = layer_numbers(standing) or [0], row_numbers(standing) or [0]
    odd = chance.random() < 0.1
    layer = chance.randint(-1, last + 1) if odd else chance.choice(layers)
    row = chance.randint(-1, last + 1) if odd else chance.choice(rows)
    word = chance.choice(
        ["layer"] * 2 + ["row"] * 8 + ["draw"] * 3 + ["hold"] * 3 + ["drop"] * 4 + ["round"] * 3 + ["straight"] * 2
        + ["move"] * 3
    )
    low, high = (-1, 1) if chance.random() < 0.05 else (0, 0)
    parts = {
        "layer": (),
        "row": (layer, chance.randint(low, 9 + high), chance.randint(1 + low, 24 + high)),
        "draw": (row, chance.randint(low, 9 + high)),
        "hold": (row, chance.randint(1 + low, 24 + high)),
        "drop": (row,),
        "round": (row,),
        "straight": (layer,),
        "move": (chance.randint(-20 + low, 20 + high), chance.randint(-20 + low, 20 + high), chance.randint(low, 24)),
    }
    return (word,) + parts[word]


def seeded(seed):
    return Random(seed)


def rolled(*deeds):
    """A roll of these deeds."""
    roll = Roll()
    for deed in deeds:
        roll.put(deed)
    return roll


# 0: a layer; 1 to 3: its rows, the last of them gone; 4: the drop; 5: another layer; 6: its row; 7: a move;
# 8: a row, undone; 9: a layer, undone.
SOME = (
    ("layer",), ("row", 0, 1, 2), ("row", 0, 3, 4), ("row", 0, 5, 6), ("drop", 3), ("layer",), ("row", 5, 7, 8),
    ("move", 1, -2, 3), ("row", 0, 1, 1), ("layer",),
)


def some_roll():
    roll = rolled(*SOME)
    roll.undo(8)
    roll.undo(9)
    return roll
