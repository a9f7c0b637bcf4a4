"""How numbers and marks are written and read."""

from riftcarry.errors import NoText
from riftcarry.riffles import MOST_HEAPS

FIGURES = "0123456789"
MOST_FIGURES = 12


def read_number(word):
    if not is_written_number(word):
        raise NoText("this is no written number")
    return int(word)


def read_numbers(words):
    return [read_number(word) for word in words]


def read_marks(word):
    if not is_written_marks(word):
        raise NoText("these are no written marks")
    return [sign == "t" for sign in word]


def is_written_number(word):
    if not 1 <= len(word) <= MOST_FIGURES:
        return False
    # Python's own isdigit takes other signs for figures too.
    if not all([sign in FIGURES for sign in word]):
        return False
    return word == "0" or not word.startswith("0")


def is_written_marks(word):
    return 1 <= len(word) <= MOST_HEAPS and all([sign in "pt" for sign in word])


def show_numbers(row):
    return " ".join([str(number) for number in row])


def show_marks(marks):
    return "".join(["t" if turned else "p" for turned in marks])
