"""Rows with two periods, a net of two marks in them, and the standard rows."""

from math import gcd

from likemarks.errors import NoPeriods, NoPlace
from likemarks.made import need_few


def has_two(row, p, q):
    """Tell of any numbers whether the row has them as its two periods."""
    most = p + q - 2
    if p < 2 or q < 1 or len(row) < p or len(row) < most or gcd(p, q) != 1:
        return False
    return row[p:] == row[:len(row) - p] and row[q:most] == row[:p - 2]


def need_two(row, p, q):
    """Refuse with NoPeriods numbers that are not the two periods of the row."""
    if not has_two(row, p, q):
        raise NoPeriods("the row has not these two periods")


def two_marks(row, p, q):
    """List the two marks of a row with two periods: a net."""
    need_two(row, p, q)
    return [p - 2, p - 1]


def walk(row, p, q, begin, behind):
    """List the begins of like stretches from one on, to the one that holds a mark."""
    need_two(row, p, q)
    if not 0 <= begin < behind <= len(row):
        raise NoPlace("the row has no such stretch")
    many = behind - begin
    place = begin
    begins = [place]
    # One that begins behind both marks holds neither, nor does one that ends ahead of them.
    while place >= p or place + many <= p - 2:
        place = place - p if place >= p else place + q
        begins.append(place)
    return begins


def standard(counts):
    """Tell the standard row of counts, with its marks."""
    if len(counts) == 0:
        return ("a", [0])
    need_few(counts[0] + 1)
    ahead = "a"
    row = "a" * counts[0] + "b"
    marks = [counts[0] - 1, counts[0]]
    for count in counts[1:]:
        many = len(row)
        need_few(many * count + len(ahead))
        row, ahead = row * count + ahead, row
        marks = [many - 2, many - 1]
    return (row, marks)
