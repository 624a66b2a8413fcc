"""A desk that keeps a roll, is told rows of words, and answers each with a text."""

from lanternrows.errors import NoWords
from lanternrows.pictures import picture_of
from lanternrows.roll import PARTS, Roll
from lanternrows.sheets import full_length
from lanternrows.texts import text_of, writes_number
from lanternrows.wholes import need_moment

NONE_YET = "-"


def spaced(numbers):
    """Numbers with one blank between two."""
    return " ".join([str(number) for number in numbers])


def picture_text(picture):
    """A picture: its drawings, and the two fractions where the window stands."""
    drawings, place = picture
    fractions = " ".join([f"{top}/{bottom}" for top, bottom in place])
    return f"{spaced(drawings)} at {fractions}"


def undone(roll, numbers):
    """Undo a deed."""
    roll.undo(numbers[0])
    return "ok"


def written_sheet(roll, numbers):
    """The sheet as a text."""
    sheet = roll.sheet_now()
    return NONE_YET if sheet is None else text_of(sheet)


def written_length(roll, numbers):
    """The length of the sheet."""
    sheet = roll.sheet_now()
    if sheet is None:
        return NONE_YET
    length = full_length(sheet)
    return "endless" if length is None else str(length)


def written_picture(roll, numbers):
    """The picture of the sheet at a moment."""
    moment = numbers[0]
    need_moment(moment)
    sheet = roll.sheet_now()
    return NONE_YET if sheet is None else picture_text(picture_of(sheet, moment))


def written_leaning(roll, numbers):
    """The numbers of the deeds that lean on one."""
    leaning = roll.leaning(numbers[0])
    return spaced(leaning) if leaning else "none"


ANSWERS = {
    "undo": undone,
    "sheet": written_sheet,
    "length": written_length,
    "at": written_picture,
    "leans": written_leaning,
}

# How many numbers stand behind each of these words.
NUMBERS_BEHIND = {"undo": 1, "sheet": 0, "length": 0, "at": 1, "leans": 1}


def numbers_behind(word):
    """How many numbers stand behind the first word of a row, None where no row begins with it."""
    if word in PARTS:
        return len(PARTS[word])
    return NUMBERS_BEHIND.get(word)


def read_row(row):
    """The first word of a row and the list of the numbers behind it."""
    words = row.split(" ") if isinstance(row, str) else [""]
    word, *rest = words
    if len(rest) != numbers_behind(word) or not all([writes_number(each) for each in rest]):
        raise NoWords("this is none of the rows that a desk is told")
    return (word, [int(each) for each in rest])


class Desk:
    """A roll, at first without deeds, that is told rows."""

    def __init__(self):
        self.roll = Roll()

    def tell(self, row):
        """Do what a row tells, or answer what it asks."""
        word, numbers = read_row(row)
        if word in PARTS:
            return str(self.roll.put((word, *numbers)))
        answer = ANSWERS[word]
        return answer(self.roll, numbers)
