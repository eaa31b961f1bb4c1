"""Cases: word by word, mark by mark, why no net of a short row has so few marks."""

from likemarks.bits import bits_of, places_in
from likemarks.errors import NoPlace
from likemarks.fewest import cores_in_order, least_marks, need_short
from likemarks.kinds import is_number


def words_to_meet(row):
    """List all cores in the order of words, as tuples (word, bits, places).

    The lacking word of any marks is one of these: were it no core, a shorter
    word would lack, too.
    """
    found = []
    for word in cores_in_order(row):
        bits = bits_of(row, word)
        found.append((word, bits, places_in(bits)))
    return found


def cases_from(words, number, taken, many):
    """Tell the cases for so many marks; the taken ones meet all words ahead of this number."""
    while words[number][1] & taken != 0:
        number += 1
    word, _, places = words[number]
    if many == 0:
        return (word, [])
    return (word, [(place, cases_from(words, number + 1, taken | (1 << place), many - 1))
                   for place in places])


def cases_for(row, many):
    """Tell the cases for a number of marks below the fewest, each word the lacking one."""
    need_short(row)
    words = words_to_meet(row)
    if many < 0 or least_marks([bits for _, bits, _ in words], 0, many) is not None:
        raise NoPlace("there are cases for numbers from 0 on and below the fewest marks alone")
    return cases_from(words, 0, 0, many)


def is_case(thing):
    """Tell of anything whether it is a tuple of a number and something else."""
    return isinstance(thing, tuple) and len(thing) == 2 and is_number(thing[0])


def has_form(thing):
    """Tell of anything whether it is a tuple of a text and a list of such cases."""
    if not isinstance(thing, tuple) or len(thing) != 2:
        return False
    word, listed = thing
    if not isinstance(word, str) or not isinstance(listed, list):
        return False
    return all([is_case(part) for part in listed])


def taken_up(row, known, word):
    """Tell as bits and as a list the places in stretches of a word; kept by the dict as known."""
    if word not in known:
        bits = bits_of(row, word)
        known[word] = (bits, places_in(bits))
    return known[word]


def are_right(row, known, taken, many, thing):
    """Tell whether this is cases for so many marks, with some taken."""
    if not has_form(thing):
        return False
    word, listed = thing
    bits, places = taken_up(row, known, word)
    if bits == 0 or bits & taken != 0:
        return False
    if many == 0:
        return len(listed) == 0
    if [place for place, _ in listed] != places:
        return False
    for place, below in listed:
        if not are_right(row, known, taken | (1 << place), many - 1, below):
            return False
    return True


def are_cases(row, many, thing):
    """Tell whether something made so is cases for a number of marks."""
    need_short(row)
    return many >= 0 and are_right(row, {}, 0, many, thing)
