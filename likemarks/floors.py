"""Floors: numbers of marks below which there is no net."""

from likemarks.bits import bits_of
from likemarks.rows import how_many_unlike


def rounded_up(many, parts):
    """Tell a number divided by another one, rounded up."""
    return -(-many // parts)


def count_floor(row):
    """Tell the greatest count of k letters divided by k, rounded up, with the least such k."""
    best = (0, 0)
    for many in range(1, len(row) + 1):
        # No two words begin at one place: what still comes is not greater than this.
        if rounded_up(len(row) + 1 - many, many) <= best[0]:
            break
        floor = rounded_up(how_many_unlike(row, many), many)
        if floor > best[0]:
            best = (floor, many)
    return best


def are_apart(row, words):
    """Tell whether words stand, each told once, none with a place in a stretch of another one."""
    taken = 0
    for word in words:
        bits = bits_of(row, word)
        # One told twice shares all its places with itself.
        if bits == 0 or bits & taken != 0:
            return False
        taken |= bits
    return True
