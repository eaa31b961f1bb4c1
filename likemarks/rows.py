"""Rows of letters, and the words that stand in them."""

from likemarks.kinds import is_letter

MOST_LETTERS = 60


def is_row(thing):
    """Tell of anything whether it is a row: a text of 0 to 60 letters."""
    if not isinstance(thing, str) or len(thing) > MOST_LETTERS:
        return False
    return all([is_letter(sign) for sign in thing])


def words_of(row, many):
    """List the word of so many letters at each place, like ones again and again."""
    return [row[begin:begin + many] for begin in range(len(row) - many + 1)]


def places(row, word):
    """List the places at which a word stands, rising."""
    found = []
    place = row.find(word)
    while place >= 0:
        found.append(place)
        place = row.find(word, place + 1)
    return found


def unlike(row, many):
    """List the unlike words of so many letters that stand, sorted."""
    return sorted(set(words_of(row, many)))


def how_many_unlike(row, many):
    """Tell how many unlike words of so many letters stand."""
    return len(set(words_of(row, many)))


def counts(row):
    """List how many unlike words of 1, 2, .. letters stand."""
    return [how_many_unlike(row, many) for many in range(1, len(row) + 1)]


def like_first(one, other):
    """Tell how many first letters of two texts with as many letters are alike."""
    for many, letter in enumerate(one):
        if other[many] != letter:
            return many
    return len(one)


def like_right(row, begins, many):
    """Tell how far stretches of so many letters, at rising places, are led on to the right alike."""
    first = begins[0] + many
    more = len(row) - (begins[-1] + many)
    for begin in begins[1:]:
        if more == 0:
            break
        behind = begin + many
        more = like_first(row[first:first + more], row[behind:behind + more])
    return more


def like_left(row, begins):
    """Tell how far stretches that begin at rising places are led on to the left alike."""
    first = begins[0]
    more = first
    for begin in begins[1:]:
        if more == 0:
            break
        more = like_first(row[first - more:first][::-1], row[begin - more:begin][::-1])
    return more
