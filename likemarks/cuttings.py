"""Left cuttings: ends between which all that lies stands earlier in the row."""

from likemarks.kinds import is_pair
from likemarks.nets import are_marks


def stands_earlier(row, begin, behind):
    """Tell whether the word of a stretch stands at a place less than its begin."""
    return row.find(row[begin:behind]) < begin


def is_cutting(row, thing):
    """Tell of a list of anything whether it is a left cutting of the row."""
    if not are_marks(row, thing):
        return False
    begin = 0
    for end in thing + [len(row)]:
        if begin < end and not stands_earlier(row, begin, end):
            return False
        begin = end + 1
    return True


def new_stretches(row):
    """List the new stretches of the first cutting, each with an end as its last place."""
    stretches = []
    begin = 0
    for end in range(len(row)):
        if not stands_earlier(row, begin, end + 1):
            stretches.append((begin, end + 1))
            begin = end + 1
    return stretches


def first_cutting(row):
    """List the ends of the first cutting: no left cutting has fewer ones."""
    return [behind - 1 for _, behind in new_stretches(row)]


def are_new(row, thing):
    """Tell of a list of anything whether it is a list of new stretches, one behind the other."""
    if not isinstance(thing, list):
        return False
    least = 0
    for stretch in thing:
        if not is_pair(stretch):
            return False
        begin, behind = stretch
        if not least <= begin < behind <= len(row) or stands_earlier(row, begin, behind):
            return False
        least = behind
    return True
