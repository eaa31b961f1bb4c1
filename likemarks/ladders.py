"""Ladders: tables around the marks of a net, by which each letter is told in a few hops."""

from likemarks.errors import NoLetter, NoPlace
from likemarks.nets import least_over, need_net, next_marks, over_places


def spans(many):
    """List for each level of a ladder for so many letters how far it goes to both sides of a mark."""
    found = []
    span = 1
    while span < many:
        span *= 2
        found.append(span)
    return found[::-1]


def quarter_begins(mark, span):
    """List the begins of the four quarters around a mark, perhaps ahead of the row or behind it."""
    half = span // 2
    return [mark - span, mark - half, mark, mark + half]


def within(row, begin, many):
    """Tell the stretch of the row among so many places from one on, None where there is none."""
    stretch = (max(begin, 0), min(begin + many, len(row)))
    return stretch if stretch[0] < stretch[1] else None


def least_held(row, nearest, word):
    """Tell the least place of a word over a mark of a net, and the least mark that it holds there."""
    place = least_over(row, nearest, word)
    return (place, nearest[place])


def quarter_of(row, marks, nearest, begin, many):
    """Tell where a quarter is led: to the mark of a number, beginning so far from it."""
    stretch = within(row, begin, many)
    if stretch is None:
        return None
    first, behind = stretch
    place, mark = least_held(row, nearest, row[first:behind])
    return (marks.index(mark), place - (first - begin) - mark)


def level_of(row, marks, nearest, span):
    """List for each mark its four quarters on the level of this span."""
    told = {}
    for mark in marks:
        for begin in quarter_begins(mark, span):
            # Marks near by have many quarters in common.
            if begin not in told:
                told[begin] = quarter_of(row, marks, nearest, begin, span // 2)
    return [[told[begin] for begin in quarter_begins(mark, span)] for mark in marks]


def ladder_of(row, marks):
    """Make the ladder of a net of a row with letters."""
    if row == "":
        raise NoLetter("the row has no letters to be told")
    need_net(row, marks)
    nearest = next_marks(len(row), marks)
    letters = "".join([row[mark] for mark in marks])
    levels = [level_of(row, marks, nearest, span) for span in spans(len(row))]
    return (len(row), list(marks), letters, levels)


def hops_to(ladder, place):
    """List the hops by which the letter at a place of the row is told."""
    many, marks, _, levels = ladder
    number = 0
    off = place - marks[0]
    found = [(number, off)]
    for span, level in zip(spans(many), levels):
        half = span // 2
        number, base = level[number][(off + span) // half]
        off = base + (off + span) % half
        found.append((number, off))
    return found


def letter_at(ladder, place):
    """Tell the letter at a place of the row: that of the mark to which the last hop leads."""
    number, _ = hops_to(ladder, place)[-1]
    return ladder[2][number]


def need_place(ladder, place):
    """Refuse with NoPlace what is no place of the ladder's row."""
    if not 0 <= place < ladder[0]:
        raise NoPlace("the row has no such place")


def hops(ladder, place):
    """List the hops by which the letter at a place is told: tuples (number of a mark, off)."""
    need_place(ladder, place)
    return hops_to(ladder, place)


def fetched(ladder, place):
    """Tell the letter at a place, from the ladder alone."""
    need_place(ladder, place)
    return letter_at(ladder, place)


def row_of(ladder):
    """Tell the whole row, from the ladder alone."""
    return "".join([letter_at(ladder, place) for place in range(ladder[0])])


def met_places(ladder, word):
    """List the places of a word over marks, rising, from the ladder alone."""
    return over_places(row_of(ladder), ladder[1], word)


def met_words(ladder, many):
    """List the unlike words of so many letters, sorted, from the ladder alone."""
    row = row_of(ladder)
    nearest = next_marks(len(row), ladder[1])
    # Each word that stands does so over a mark: no others are looked at.
    return sorted(set([row[begin:begin + many] for begin in range(len(row) - many + 1)
                       if nearest[begin] < begin + many]))
