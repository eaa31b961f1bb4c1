"""Whether a tuple is a ladder that fits a row, so that the row can be told by it."""

from likemarks.kinds import is_number, is_pair
from likemarks.ladders import quarter_begins, spans, within
from likemarks.nets import are_marks


def leads_right(row, marks, thing, begin, many):
    """Tell whether this is right for a quarter of so many places from one on."""
    stretch = within(row, begin, many)
    if stretch is None:
        return thing is None
    if not is_pair(thing) or not 0 <= thing[0] < len(marks):
        return False
    mark = marks[thing[0]]
    forth = mark + thing[1] - begin
    first, behind = stretch[0] + forth, stretch[1] + forth
    if not 0 <= first <= mark < behind <= len(row):
        return False
    return row[first:behind] == row[stretch[0]:stretch[1]]


def are_quarters(row, marks, thing, mark, span):
    """Tell of anything whether it is a list of four right quarters around a mark."""
    if not isinstance(thing, list) or len(thing) != 4:
        return False
    for part, begin in zip(thing, quarter_begins(mark, span)):
        if not leads_right(row, marks, part, begin, span // 2):
            return False
    return True


def is_level(row, marks, thing, span):
    """Tell of anything whether it is a list of right quarters for each mark."""
    if not isinstance(thing, list) or len(thing) != len(marks):
        return False
    for part, mark in zip(thing, marks):
        if not are_quarters(row, marks, part, mark, span):
            return False
    return True


def are_levels(row, marks, thing):
    """Tell of anything whether it is a list of all right levels."""
    if not isinstance(thing, list) or len(thing) != len(spans(len(row))):
        return False
    for part, span in zip(thing, spans(len(row))):
        if not is_level(row, marks, part, span):
            return False
    return True


def is_fitting(row, thing):
    """Tell of a tuple of four whether it is a ladder fitting for the row."""
    if not isinstance(thing, tuple) or len(thing) != 4:
        return False
    many, marks, letters, levels = thing
    if not is_number(many) or many != len(row):
        return False
    if not are_marks(row, marks) or len(marks) == 0:
        return False
    if letters != "".join([row[mark] for mark in marks]):
        return False
    return are_levels(row, marks, levels)
