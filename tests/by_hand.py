"""What the document says, once more and as plainly as can be, to test against."""

from itertools import combinations, product

FIBONACCI = "abaababaabaababaababa"
LONG_ROWS = (
    "a" * 60,
    "a" * 59 + "b",
    "b" + "a" * 59,
    "ab" * 30,
    "abc" * 20,
    (FIBONACCI * 3)[:60],
    "abcdefghijklmnopqrstuvwxyz" * 2 + "abcdefgh",
    "abcdefghijklmnopqrstuvwxyzzyxwvutsrqponmlkjihgfedcba",
    "aabbaaabbbaaaabbbbaaaaabbbbb" * 2,
    "abracadabraabracadabra",
    "mississippimississippi",
)


def rows_to(letters, most):
    """All rows of these letters of 0 to so many letters."""
    return ["".join(signs) for many in range(most + 1) for signs in product(letters, repeat=many)]


def all_marks(row):
    """All rising lists of places of the row."""
    return [list(marks) for many in range(len(row) + 1)
            for marks in combinations(range(len(row)), many)]


def standing(row):
    """The set of all words that stand in the row."""
    return {row[i:j] for i in range(len(row)) for j in range(i + 1, len(row) + 1)}


def places_of(row, word):
    return [i for i in range(len(row)) if row[i:].startswith(word)]


def stands_over(row, marks, word, place):
    taken = range(place, place + len(word))
    return place in places_of(row, word) and any(mark in taken for mark in marks)


def over_of(row, marks, word):
    met = [i for i in places_of(row, word) if stands_over(row, marks, word, i)]
    return met[0] if met else None


def in_order(words):
    return sorted(words, key=lambda word: (len(word), word))


def lacking_of(row, marks):
    words = [w for w in standing(row) if over_of(row, marks, w) is None]
    return in_order(words)[0] if words else None


def net(row, marks):
    return lacking_of(row, marks) is None


def nets_of(row):
    return [marks for marks in all_marks(row) if net(row, marks)]


def goals_of(pieces):
    """Where each place of well-formed pieces is led: to a place, or at an own one to a letter."""
    goals = []
    for piece in pieces:
        if piece[0] == "own":
            goals.append(piece[1])
        else:
            goals += [piece[1] + k for k in range(piece[2])]
    return goals


def row_told(pieces):
    """The row of well-formed pieces, or None: letters come by and by, or never."""
    goals = goals_of(pieces)
    known = {place: goal for place, goal in enumerate(goals) if isinstance(goal, str)}
    if any(not isinstance(goal, str) and not 0 <= goal < len(goals) for goal in goals):
        return None
    for _ in goals:
        for place, goal in enumerate(goals):
            if goal in known and not isinstance(goal, str):
                known[place] = known[goal]
    if len(known) < len(goals):
        return None
    return "".join(known[place] for place in range(len(goals)))


def pieces_to(many, left):
    """All lists of pieces of letters a and b with just so many letters left, for a row of so many."""
    if left == 0:
        return [[]]
    found = [[("own", letter)] + more for letter in "ab" for more in pieces_to(many, left - 1)]
    for size in range(1, left + 1):
        for place in range(many - size + 1):
            found += [[("like", place, size)] + more for more in pieces_to(many, left - size)]
    return found


def tellings_to(most):
    """All tellings of letters a and b of 0 to so many letters."""
    return [pieces for many in range(most + 1) for pieces in pieces_to(many, many)
            if row_told(pieces) is not None]


def stretches(many):
    """All stretches of a row of so many letters."""
    return [(begin, behind) for begin in range(many) for behind in range(begin + 1, many + 1)]


def lists_within(thing):
    """All lists within a thing told, itself too."""
    if not isinstance(thing, (list, tuple)):
        return []
    found = [thing] if isinstance(thing, list) else []
    return found + [part for inner in thing for part in lists_within(inner)]


def all_one_each(test, *told):
    """Test that no two lists within the things told are one."""
    lists = [part for thing in told for part in lists_within(thing)]
    test.assertEqual(len({id(part) for part in lists}), len(lists))


def raised(test, error, call, *handed):
    """Test that a call is refused with just this class of error, made with one text."""
    with test.assertRaises(error) as caught:
        call(*handed)
    test.assertIs(type(caught.exception), error)
    test.assertEqual(len(caught.exception.args), 1)
    test.assertIs(type(caught.exception.args[0]), str)
