"""Whole numbers between bounds, and the refusal of what is none or goes beyond them."""

from lanternrows.errors import NoMoment, NoNumber, TooMany

LAST_MOMENT = 10 ** 9


def is_whole_from(thing, least):
    """Whether a thing of whatever kind is a whole number from least on."""
    # Python counts True and False among the integers; the document does not.
    if isinstance(thing, bool) or not isinstance(thing, int):
        return False
    return least <= thing


def is_whole(thing, least, most):
    """Whether a thing of whatever kind is a whole number from least to most."""
    return is_whole_from(thing, least) and thing <= most


def need_moment(thing):
    """Refuse what is no moment."""
    if not is_whole(thing, 0, LAST_MOMENT):
        raise NoMoment("a moment is a whole number from 0 to 10 ** 9")


def need_number(thing, least, most):
    """Refuse what is no whole number from least to most."""
    if not is_whole(thing, least, most):
        raise NoNumber(f"a whole number from {least} to {most} is needed")


def need_at_most(many, most):
    """Refuse so many where most may be."""
    if many > most:
        raise TooMany(many, most)
