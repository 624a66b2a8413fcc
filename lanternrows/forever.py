"""What comes again and again for ever, and which sheets show the same for ever."""

from lanternrows.laying import ahead_and_around, first_drawings
from lanternrows.pictures import common_divisor, place_of
from lanternrows.sheets import is_tuple, moved, need_as_many_layers, need_layer, need_sheet
from lanternrows.wholes import is_whole_from


def least_many(around):
    """The least number of moments behind which a list shown again and again shows the same."""
    many = 1
    while around[many:] + around[:many] != around:
        many += 1
    return many


def least_ahead(shown, ahead, many):
    """The least moment from which what is shown comes again so many moments later, as it does from ahead on."""
    while ahead and shown[ahead - 1] == shown[ahead - 1 + many]:
        ahead -= 1
    return ahead


def round_of(layer):
    """The least round of what is surely a layer."""
    ahead, around = ahead_and_around(layer)
    many = least_many(around)
    return (least_ahead(ahead + around, len(ahead), many), many)


def first_places(window, many):
    """The list of where what is surely a window stands at its first moments."""
    return [place_of(window, moment) for moment in range(many)]


def round_of_window(window):
    """The least round of the places of what is surely a window."""
    length = moved(window)
    # Behind its last move it stays, so that each place from there on comes again one moment later.
    return (least_ahead(first_places(window, length + 1), length, 1), 1)


def common_multiple(one, other):
    """The least number that two numbers from 1 on both divide."""
    return one // common_divisor(one, other) * other


def is_round(layer, thing):
    """Whether a thing of whatever kind is a round of a layer."""
    need_layer(layer)
    if not is_tuple(thing, 2, 2):
        return False
    ahead, many = thing
    if not is_whole_from(ahead, 0) or not is_whole_from(many, 1):
        return False
    # No round begins ahead of the least one, and its many divides that of each other one.
    first_ahead, first_many = round_of(layer)
    return ahead >= first_ahead and many % first_many == 0


def least_round(layer):
    """The round of a layer with the least ahead, of these the one with the least many."""
    need_layer(layer)
    return round_of(layer)


def sheet_round(sheet):
    """The round of a sheet's pictures with the least ahead, of these the one with the least many."""
    need_sheet(sheet)
    layers, window = sheet
    most_ahead, all_many = round_of_window(window)
    for layer in layers:
        ahead, many = round_of(layer)
        most_ahead = max(most_ahead, ahead)
        all_many = common_multiple(all_many, many)
    return (most_ahead, all_many)


def first_unlike(one, other):
    """The first place at which two lists of one length are unlike, None where there is none."""
    for at, (here, there) in enumerate(zip(one, other)):
        if here != there:
            return at
    return None


def layers_parting(one, other):
    """The first moment at which what are surely layers show unlike drawings, None where there is none."""
    ahead, many = round_of(one)
    other_ahead, other_many = round_of(other)
    # Two rounds that show the same for as long as both together show the same for ever.
    enough = max(ahead, other_ahead) + many + other_many
    return first_unlike(first_drawings(one, enough), first_drawings(other, enough))


def windows_parting(one, other):
    """The first moment at which what are surely windows stand in unlike places, None where there is none."""
    enough = max(moved(one), moved(other)) + 1
    return first_unlike(first_places(one, enough), first_places(other, enough))


def parting(one, other):
    """The first moment at which the pictures of two sheets are unlike, None where there is none."""
    need_sheet(one)
    need_sheet(other)
    need_as_many_layers(one, other)
    layers, window = one
    other_layers, other_window = other
    moments = [layers_parting(first, second) for first, second in zip(layers, other_layers)]
    moments.append(windows_parting(window, other_window))
    return min([moment for moment in moments if moment is not None], default=None)


def are_alike(one, other):
    """Whether two sheets show the same for ever."""
    return parting(one, other) is None
