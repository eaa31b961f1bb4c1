"""The marks of runs: a net, told by the runs of like signs in the letters ahead."""

from likemarks.errors import NoStand
from likemarks.rows import places
from likemarks.tails import ahead, tails


def run_marks(row):
    """List the marks of runs, rising."""
    begins = tails(row)
    signs = ahead(row)
    marks = []
    for number, begin in enumerate(begins):
        ends_run = number == len(signs) - 1 or signs[number + 1] != signs[number]
        if ends_run and begin > 0:
            marks.append(begin - 1)
    return sorted(marks)


def last_place(row, word):
    """Tell that place of a word whose tail is the last one: there it stands over such a mark."""
    found = places(row, word)
    if not found:
        raise NoStand("the word stands nowhere in the row")
    return max(found, key=lambda place: row[place:])
