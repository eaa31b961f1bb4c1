"""Papers: for each core a place at which it stands over a mark."""

from likemarks.heads import cores
from likemarks.kinds import is_number
from likemarks.nets import over, over_places


def paper(row, marks):
    """Tell the paper with the least places, or None where there is none."""
    found = [(core, over(row, marks, core)) for core in cores(row)]
    if any([place is None for _, place in found]):
        return None
    return found


def is_entry(thing):
    """Tell of anything whether it is a tuple of a text and a number."""
    if not isinstance(thing, tuple) or len(thing) != 2:
        return False
    return isinstance(thing[0], str) and is_number(thing[1])


def paper_right(row, marks, thing):
    """Tell of a list of anything whether it is a paper."""
    if not isinstance(thing, list) or not all([is_entry(entry) for entry in thing]):
        return False
    if [core for core, _ in thing] != cores(row):
        return False
    return all([place in over_places(row, marks, core) for core, place in thing])
