"""Plates, one for each unlike picture, and the papers that tell which are kept when a sheet takes another's place."""

from lanternrows.errors import NoPaper
from lanternrows.pictures import MOST_PICTURES, pictures_from, pictures_of
from lanternrows.sheets import is_tuple, need_as_many_layers, need_row, need_sheet
from lanternrows.wholes import is_whole_from, need_number


def plates(sheet, many):
    """The rising list of the unlike pictures that a sheet shows at its first so many moments."""
    return sorted(set(pictures_from(sheet, 0, many)))


def with_part(parts, at, new):
    """The tuple with another part in this one place."""
    return parts[:at] + (new,) + parts[at + 1:]


def changed(sheet, layer, place, row):
    """The sheet with this row in the place of that one of that layer."""
    need_sheet(sheet)
    layers, window = sheet
    need_number(layer, 0, len(layers) - 1)
    rows, back = layers[layer]
    need_number(place, 0, len(rows) - 1)
    need_row(row)
    return (with_part(layers, layer, (with_part(rows, place, row), back)), window)


def need_pair(one, other, many):
    """Refuse two sheets and a number of moments of which there is no paper."""
    need_sheet(one)
    need_sheet(other)
    need_number(many, 0, MOST_PICTURES)
    # This hangs on both sheets, so it is looked at behind the number.
    need_as_many_layers(one, other)


def was_shown(picture, moment, shown):
    """Whether the list of the pictures that were shown has this one at a number from 0 on."""
    return moment < len(shown) and shown[moment] == picture


def stands_for(number, picture, made):
    """Whether a number stands for this picture; if for none yet, it stands for this one from now on."""
    return made.setdefault(number, picture) == picture


def is_entry(thing, picture, shown, made):
    """Whether a thing of whatever kind may stand in a paper for a moment at which the picture is shown."""
    if not is_tuple(thing, 2, 2):
        return False
    word, number = thing
    if not is_whole_from(number, 0):
        return False
    if word == "kept":
        return was_shown(picture, number, shown)
    return word == "made" and stands_for(number, picture, made)


def is_paper(one, other, many, thing):
    """Whether a thing of whatever kind is a paper of two sheets for so many moments."""
    need_pair(one, other, many)
    if not is_tuple(thing, many, many):
        return False
    shown = pictures_of(one, 0, many)
    made = {}
    for entry, picture in zip(thing, pictures_of(other, 0, many)):
        if not is_entry(entry, picture, shown, made):
            return False
    return True


def made_by(one, other, many, paper):
    """How many unlike numbers of plates that are made a paper has."""
    # Whether it is a paper can be asked of sheets of as many layers only, so Unlike goes ahead of NoPaper.
    if not is_paper(one, other, many, paper):
        raise NoPaper("a paper of these sheets for so many moments is needed")
    return len({number for word, number in paper if word == "made"})


def least_paper(one, other, many):
    """The paper with the fewest plates that are made."""
    need_pair(one, other, many)
    first_moments = {}
    for moment, picture in enumerate(pictures_of(one, 0, many)):
        first_moments.setdefault(picture, moment)
    made = {}
    paper = []
    for picture in pictures_of(other, 0, many):
        if picture in first_moments:
            paper.append(("kept", first_moments[picture]))
        else:
            paper.append(("made", made.setdefault(picture, len(made))))
    return tuple(paper)
