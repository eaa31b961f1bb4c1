"""Marks of a row, and whether they are a net: each word stands somewhere over one."""

from likemarks.errors import NoNet
from likemarks.kinds import is_number
from likemarks.rows import places, unlike, words_of


def next_marks(row, marks):
    """List for each place the least mark from there on.

    A stretch holds a mark just where the one at its begin is less than its
    behind. Where no mark comes any more, the length of the row stands, as no
    behind is beyond it.
    """
    return [min([mark for mark in marks if mark >= place], default=len(row))
            for place in range(len(row))]


def over_places(row, marks, word):
    """List the places at which a word stands over one of the marks, rising."""
    nearest = next_marks(row, marks)
    return [place for place in places(row, word) if nearest[place] < place + len(word)]


def over(row, marks, word):
    """Tell the least place at which a word stands over one of the marks, or None."""
    return min(over_places(row, marks, word), default=None)


def lacking_of(row, nearest, many):
    """Tell the least word of so many letters that stands over no mark, or None."""
    met = {}
    for place, word in enumerate(words_of(row, many)):
        if nearest[place] < place + many:
            met[word] = True
    for word in unlike(row, many):
        if word not in met:
            return word
    return None


def lacking(row, marks):
    """Tell the first word, in the order of words, that stands over no mark, or None."""
    nearest = next_marks(row, marks)
    for many in range(1, len(row) + 1):
        word = lacking_of(row, nearest, many)
        if word is not None:
            return word
    return None


def are_marks(row, thing):
    """Tell of anything whether it is a rising list of places of the row."""
    if not isinstance(thing, list):
        return False
    least = 0
    for mark in thing:
        if not is_number(mark) or not least <= mark < len(row):
            return False
        least = mark + 1
    return True


def is_net(row, thing):
    """Tell of a list of anything whether it is a net of the row."""
    return are_marks(row, thing) and lacking(row, thing) is None


def need_net(row, marks):
    """Refuse with NoNet what is no net of the row."""
    if not is_net(row, marks):
        raise NoNet("the marks are no net of the row")


def without(marks, mark):
    """List all the marks but one."""
    return [other for other in marks if other != mark]


def leaner(row, marks):
    """Leave out, from the least on, each mark without which the others are a net."""
    need_net(row, marks)
    kept = list(marks)
    for mark in marks:
        others = without(kept, mark)
        if lacking(row, others) is None:
            kept = others
    return kept


def own_words(row, marks):
    """List for each mark of a net the lacking word of the others, or None."""
    need_net(row, marks)
    return [lacking(row, without(marks, mark)) for mark in marks]
