"""Tails in their order, the letters ahead of them, and the way back from these to the row."""

from likemarks.errors import NoTails
from likemarks.rows import is_row


def tails(row):
    """List the begins of all tails in the order of the tails."""
    return sorted(range(len(row) + 1), key=lambda begin: row[begin:])


def ahead(row):
    """Tell the letters ahead of the tails in their order, a point for that of place 0."""
    return "".join([row[begin - 1] if begin > 0 else "." for begin in tails(row)])


def row_back(text):
    """Tell the row that has these letters ahead; refuse with NoTails those of no row."""
    if text.count(".") != 1 or not is_row(text.replace(".", "")):
        raise NoTails("the letters ahead of a row are at most 60 letters and one point")
    # Sorted by their first letters, like ones as they came, tails stay in order:
    # so the tail of this number, its first letter left out, has that one's number.
    shorter = sorted(range(len(text)), key=lambda number: text[number])
    number = text.index(".")
    letters = []
    # The point is sorted first: it leads from 0 round to the begin, so 0 comes.
    while number != 0:
        number = shorter[number]
        letters.append(text[number])
    if len(letters) < len(text) - 1:
        raise NoTails("these letters are the ones ahead of no row")
    return "".join(letters)
