"""Chains: stretches of a told row, led whole from one to the next, on to one that holds an end."""

from likemarks.errors import NoPlace
from likemarks.nets import next_marks, over_places
from likemarks.tellings import ends, length_of, row_along, spread


def next_ends(telling):
    """List for each place of the told row the least end from there on."""
    found = ends(telling)
    many = found[-1] + 1 if found else 0
    return next_marks(many, found)


def need_stretch(many, begin, behind):
    """Refuse with NoPlace what is no stretch of a row of so many letters."""
    if not 0 <= begin < behind <= many:
        raise NoPlace("the told row has no such stretch")


def chain(telling, begin, behind):
    """List the like stretches from one on to that which holds an end."""
    nearest = next_ends(telling)
    need_stretch(len(nearest), begin, behind)
    steps = spread(telling)
    many = behind - begin
    place = begin
    found = [(begin, behind)]
    while nearest[place] >= place + many:
        place = steps[place]
        found.append((place, place + many))
    return found


def led_straight(telling, many):
    """Tell by a dict, by the begins, from which stretches of so many letters one is led to straight."""
    found = {}
    begin = 0
    for piece in telling:
        size = length_of(piece)
        # A stretch that holds no end ends ahead of its piece's last place.
        for more in range(size - many):
            found.setdefault(piece[1] + more, []).append(begin + more)
        begin += size
    return found


def brood_of(straight, begin):
    """List the begins, rising, from which a way leads to this one, its own too."""
    found = []
    waiting = [begin]
    while waiting:
        place = waiting.pop()
        found.append(place)
        waiting.extend(straight.get(place, []))
    return sorted(found)


def brood(telling, begin, behind):
    """List the begins, rising, of all stretches whose chain ends with this one, which holds an end."""
    nearest = next_ends(telling)
    need_stretch(len(nearest), begin, behind)
    if nearest[begin] >= behind:
        raise NoPlace("the stretch holds no end")
    return brood_of(led_straight(telling, behind - begin), begin)


def broods(telling, word):
    """List the places at which a word holds an end, as tuples (place, brood)."""
    row = row_along(spread(telling))
    straight = led_straight(telling, len(word))
    return [(place, brood_of(straight, place)) for place in over_places(row, ends(telling), word)]
