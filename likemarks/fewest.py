"""The fewest marks of a short row: the least of all nets that have no more."""

from likemarks.bits import bits_of
from likemarks.errors import TooMany
from likemarks.heads import cores

MOST_SHORT = 12


def need_short(row):
    """Refuse with TooMany a row of more than twelve letters."""
    if len(row) > MOST_SHORT:
        raise TooMany("the row has more than twelve letters")


def cores_in_order(row):
    """List the cores in the order of words."""
    return sorted(cores(row), key=lambda core: (len(core), core))


def least_needed(unmet):
    """Tell how many of these, gone through in turn, lie apart: each wants a mark of its own."""
    many = 0
    taken = 0
    for bits in unmet:
        if bits & taken == 0:
            taken |= bits
            many += 1
    return many


def least_marks(unmet, first, many):
    """Tell at most so many marks, from the first place on, that meet all; None where there are none.

    Where fewer marks don't do, these are the least ones.
    """
    if len(unmet) == 0:
        return []
    if least_needed(unmet) > many:
        return None
    # Behind the last place of one that is still unmet, no mark meets it any more.
    behind = min([bits.bit_length() for bits in unmet])
    for place in range(first, behind):
        left = [bits for bits in unmet if bits & (1 << place) == 0]
        # A mark that meets nothing new is one too many.
        if len(left) < len(unmet):
            marks = least_marks(left, place + 1, many - 1)
            if marks is not None:
                return [place] + marks
    return None


def fewest_net(row):
    """List the marks of the least net of those with the fewest marks."""
    need_short(row)
    unmet = [bits_of(row, core) for core in cores_in_order(row)]
    many = 0
    marks = least_marks(unmet, 0, many)
    while marks is None:
        many += 1
        marks = least_marks(unmet, 0, many)
    return marks
