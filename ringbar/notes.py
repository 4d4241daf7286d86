"""Notes: settings and rows, written as texts and read."""

from ringbar.bars import MOST_RINGS, need_setting
from ringbar.chests import need_counts, need_row
from ringbar.errors import NoNote
from ringbar.kinds import is_text

SIGNS = ".o"
FIGURES = "012345678"


def shown(setting):
    """The text of a setting."""
    need_setting(setting)
    return "".join([SIGNS[cell] for cell in setting])


def read(text):
    """The setting of a text."""
    if not is_text(text, 1, MOST_RINGS):
        raise NoNote("a written setting is a text of a sign for each of 1 to 40 rings")
    return tuple([_place(SIGNS, sign) for sign in text])


def shown_row(counts, row):
    """The text of a row."""
    need_row(counts, row)
    return "".join([FIGURES[position] for position in row])


def read_row(counts, text):
    """The row of a text."""
    need_counts(counts)
    if not is_text(text, len(counts), len(counts)):
        raise NoNote("a written row is a text of a figure for each drawer")
    return tuple([_place(FIGURES[:count], figure) for count, figure in zip(counts, text)])


def _place(signs, sign):
    """Where the sign stands among the signs that may be written."""
    place = signs.find(sign)
    if place < 0:
        raise NoNote("this sign is not written here")
    return place
