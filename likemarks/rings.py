"""Rings: rows told round, and marks of these."""

from likemarks.errors import NoLetter, NoNet, NoPlace
from likemarks.made import need_few
from likemarks.nets import are_marks, first_lacking, need_net
from likemarks.rows import places


def need_ring(row):
    """Refuse with NoLetter the row without letters: it has no ring."""
    if row == "":
        raise NoLetter("the row has no letters to be told round")


def ring_places(row, word):
    """List the places of the ring at which a word stands, rising."""
    need_ring(row)
    if len(word) > len(row):
        return []
    return places(row + row[:len(word) - 1], word)


def first_unmet(row, marks):
    """Tell the first word, in the order of words, that stands in the ring over no mark, or None."""
    # Told twice, the row has all words of the ring at the places of its first time.
    many = len(row)
    return first_lacking(row + row, many, marks + [many + mark for mark in marks])


def ring_lacking(row, marks):
    """Tell the first word, in the order of words, that stands in the ring over no mark, or None."""
    need_ring(row)
    return first_unmet(row, marks)


def ring_of(row, marks):
    """List the marks of a net and the last place: a ring net."""
    need_ring(row)
    need_net(row, marks)
    return sorted(set(marks + [len(row) - 1]))


def told_again(row, marks, times):
    """Tell the row told so many times, three or more, with the marks of a ring net one row farther."""
    need_ring(row)
    if not are_marks(row, marks) or first_unmet(row, marks) is not None:
        raise NoNet("the marks are no ring net of the row")
    if times < 3:
        raise NoPlace("the row is to be told three times or more")
    need_few(len(row) * times)
    return (row * times, [len(row) + mark for mark in marks])


def turned(row, marks, k):
    """Tell the row from a place on, round, with its marks."""
    need_ring(row)
    many = len(row)
    first = k % many
    return (row[first:] + row[:first], sorted([(mark - k) % many for mark in marks]))


def root(row):
    """Tell the shortest row that makes this one, told some times, and how many times."""
    need_ring(row)
    # Where the row comes again when it is told round, all of it goes on as its root does.
    many = (row + row).find(row, 1)
    return (row[:many], len(row) // many)
