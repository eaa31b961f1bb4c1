"""Tellings: a row told by own letters and by pieces like another stretch of it."""

from likemarks.errors import NoPlace, NoTelling
from likemarks.kinds import is_letter, is_number
from likemarks.rows import MOST_LETTERS


def is_piece(thing):
    """Tell of a tuple of texts and numbers whether it has the form of a piece."""
    if not isinstance(thing, tuple):
        return False
    if len(thing) == 2:
        return thing[0] == "own" and is_letter(thing[1])
    if len(thing) == 3:
        return thing[0] == "like" and is_number(thing[1]) and is_number(thing[2]) and thing[2] > 0
    return False


def length_of(piece):
    """Tell how many letters a piece has."""
    return 1 if piece[0] == "own" else piece[2]


def ends(telling):
    """List the last places of all pieces, rising."""
    behind = 0
    last_places = []
    for piece in telling:
        behind += length_of(piece)
        last_places.append(behind - 1)
    return last_places


def spread(telling):
    """List for each place its letter where it is own, else the place to which it is led."""
    steps = []
    for piece in telling:
        if piece[0] == "own":
            steps.append(piece[1])
        else:
            steps.extend(list(range(piece[1], piece[1] + piece[2])))
    return steps


def need_form(telling):
    """Refuse with NoTelling what is no list of pieces, all led to places of its row."""
    if not isinstance(telling, list) or not all([is_piece(piece) for piece in telling]):
        raise NoTelling("there is something that is no piece")
    # Asked ahead of all spreading: a single piece may name any number of letters.
    many = sum([length_of(piece) for piece in telling])
    if many > MOST_LETTERS:
        raise NoTelling("the pieces have more letters than a row")
    for piece in telling:
        if piece[0] == "like" and not 0 <= piece[1] <= many - piece[2]:
            raise NoTelling("a piece is led to places beyond the row")


def row_along(steps):
    """Tell the row of which each place is own or led on; refuse with NoTelling one led round."""
    letters = [None if is_number(step) else step for step in steps]
    for place in range(len(steps)):
        goal = place
        way = []
        while letters[goal] is None:
            if len(way) == len(steps):
                raise NoTelling("a place is led round")
            way.append(goal)
            goal = steps[goal]
        # Told at once of all places passed: no way is gone along twice.
        for passed in way:
            letters[passed] = letters[goal]
    return "".join(letters)


def told_row(telling):
    """Tell the row that a telling tells; refuse with NoTelling what tells none."""
    need_form(telling)
    return row_along(spread(telling))


def led(telling, place):
    """List the way of a place, from itself on to the place of an own piece."""
    steps = spread(telling)
    if not 0 <= place < len(steps):
        raise NoPlace("the told row has no such place")
    way = [place]
    # No place comes twice, but where the way is led round: so it may end here.
    while is_number(steps[way[-1]]) and len(way) < len(steps):
        way.append(steps[way[-1]])
    return way
