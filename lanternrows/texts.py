"""Sheets written as texts, and read again."""

from lanternrows.errors import NoText
from lanternrows.sheets import is_sheet, need_sheet

MOST_FIGURES = 30


def writes_number(word):
    """Whether a word writes a whole number of at most thirty figures, without a needless nought."""
    figures = word[1:] if word.startswith("-") else word
    if not figures.isascii() or not figures.isdigit() or len(figures) > MOST_FIGURES:
        return False
    return word == "0" or figures[0] != "0"


def number_in(word):
    """The number that a word writes; where it writes none, the word, which is right in no place of a sheet."""
    return int(word) if writes_number(word) else word


def numbers_in(word, between):
    """The tuple of the numbers of a word that has this sign between two."""
    return tuple([number_in(part) for part in word.split(between)])


def move_text(move):
    """A move as a word."""
    return ",".join([str(number) for number in move])


def row_text(row):
    """A row as a word."""
    return "x".join([str(number) for number in row])


def window_text(window):
    """A window as a line, without its end."""
    x, y, moves = window
    return " ".join(["window", str(x), str(y)] + [move_text(move) for move in moves])


def layer_text(layer):
    """A layer as a line, without its end."""
    rows, back = layer
    return " ".join(["layer", "-" if back is None else str(back)] + [row_text(row) for row in rows])


def text_of(sheet):
    """What is surely a sheet as a text."""
    layers, window = sheet
    lines = [window_text(window)] + [layer_text(layer) for layer in layers]
    return "".join([line + "\n" for line in lines])


def sheet_text(sheet):
    """A sheet as a text."""
    need_sheet(sheet)
    return text_of(sheet)


def window_in(line):
    """The window of a line, or something that is none."""
    words = line.split(" ")
    if words[0] != "window" or len(words) < 3:
        return None
    moves = tuple([numbers_in(word, ",") for word in words[3:]])
    return (number_in(words[1]), number_in(words[2]), moves)


def layer_in(line):
    """The layer of a line, or something that is none."""
    words = line.split(" ")
    if words[0] != "layer" or len(words) < 2:
        return None
    rows = tuple([numbers_in(word, "x") for word in words[2:]])
    return (rows, None if words[1] == "-" else number_in(words[1]))


def sheet_in(text):
    """The sheet of a text, or something that is none."""
    if not text.endswith("\n"):
        return None
    lines = text[:-1].split("\n")
    return (tuple([layer_in(line) for line in lines[1:]]), window_in(lines[0]))


def read_sheet(text):
    """The sheet that a text writes."""
    sheet = sheet_in(text) if isinstance(text, str) else None
    if not is_sheet(sheet):
        raise NoText("this is not how a sheet is written")
    return sheet
