"""Bids as texts, written and read."""

from fairsplit.checks import check_bids
from fairsplit.errors import NoText

MOST_FIGURES = 13


def shown(bids):
    """Write the bids as lines, one for each person."""
    check_bids(bids)
    return "".join([" ".join([str(bid) for bid in row]) + "\n" for row in bids])


def read(text):
    """Read the bids from a text of such lines."""
    if text != "" and not text.endswith("\n"):
        raise NoText("the text does not end by a line end")
    # Behind the last line end stands nothing, which is no line.
    lines = text.split("\n")[:-1]
    bids = [numbers(line) for line in lines]
    check_bids(bids)
    return bids


def numbers(line):
    """Read the numbers from a line without its line end."""
    if line == "":
        return []
    words = line.split(" ")
    if not all([is_written(word) for word in words]):
        raise NoText("a line is not made of numbers with one blank between")
    return [int(word) for word in words]


def is_written(word):
    """Tell whether the word is a number as it is written, with not too many figures."""
    if not (word.isascii() and word.isdigit()):
        return False
    if len(word) > MOST_FIGURES:
        return False
    return word == "0" or not word.startswith("0")
