"""Marks of a row, and whether they are a net: each word stands somewhere over one."""

from likemarks.bits import bits_at, letter_bits
from likemarks.errors import NoNet
from likemarks.kinds import is_number
from likemarks.rows import places


def next_marks(many, marks):
    """List for each of so many places the least mark from there on.

    A stretch holds a mark just where the one at its begin is less than its
    behind. Where no mark comes any more, the number of places stands, as no
    behind is beyond it.
    """
    found = []
    begin = 0
    for mark in marks:
        found.extend([mark] * (mark + 1 - begin))
        begin = mark + 1
    found.extend([many] * (many - begin))
    return found


def over_places(row, marks, word):
    """List the places at which a word stands over one of the marks, rising."""
    nearest = next_marks(len(row), marks)
    return [place for place in places(row, word) if nearest[place] < place + len(word)]


def least_over(row, nearest, word):
    """Tell the least place at which a word stands over a mark, by the next marks, or None."""
    place = row.find(word)
    while place >= 0 and nearest[place] >= place + len(word):
        place = row.find(word, place + 1)
    return place if place >= 0 else None


def over(row, marks, word):
    """Tell the least place at which a word stands over one of the marks, or None."""
    return least_over(row, next_marks(len(row), marks), word)


def first_lacking(text, many, marks):
    """Tell the first word, in the order of words, that stands at some of so many first places of a
    text, but over a mark at none of these, or None.

    Words are led on letter by letter, with all their places as bits at once. One that
    holds a mark at each of its places is left: so does any that begins with it.
    """
    spots = letter_bits(text)
    marked = bits_at(marks)
    inside = (1 << len(text)) - 1
    held = 0
    groups = [(1 << many) - 1]
    size = 0
    while groups:
        # A stretch of size + 1 letters holds a mark where it begins at one of these.
        held |= marked >> size
        lacked = []
        left = []
        for bits in groups:
            # Where the text ends, no letter leads a word on.
            rest = bits & inside
            while rest != 0:
                place = rest.bit_length() - 1
                alike = rest & (spots[text[place + size]] >> size)
                rest -= alike
                if alike & held == 0:
                    lacked.append(text[place:place + size + 1])
                elif alike & held != alike:
                    left.append(alike)
        if lacked:
            return min(lacked)
        groups = left
        size += 1
        inside >>= 1
    return None


def lacking(row, marks):
    """Tell the first word, in the order of words, that stands over no mark, or None."""
    return first_lacking(row, len(row), marks)


def are_marks(row, thing):
    """Tell of anything whether it is a rising list of places of the row."""
    if not isinstance(thing, list):
        return False
    least = 0
    for mark in thing:
        if not is_number(mark) or not least <= mark < len(row):
            return False
        least = mark + 1
    return True


def is_net(row, thing):
    """Tell of a list of anything whether it is a net of the row."""
    return are_marks(row, thing) and lacking(row, thing) is None


def need_net(row, marks):
    """Refuse with NoNet what is no net of the row."""
    if not is_net(row, marks):
        raise NoNet("the marks are no net of the row")


def without(marks, mark):
    """List all the marks but one."""
    return [other for other in marks if other != mark]


def leaner(row, marks):
    """Leave out, from the least on, each mark without which the others are a net."""
    need_net(row, marks)
    kept = list(marks)
    for mark in marks:
        others = without(kept, mark)
        if lacking(row, others) is None:
            kept = others
    return kept


def own_words(row, marks):
    """List for each mark of a net the lacking word of the others, or None."""
    need_net(row, marks)
    return [lacking(row, without(marks, mark)) for mark in marks]
