"""What the document says, once more and as plainly as can be, to test against."""

from itertools import combinations, product

FIBONACCI = "abaababaabaababaababa"
LONG_ROWS = (
    "a" * 60,
    "a" * 59 + "b",
    "b" + "a" * 59,
    "ab" * 30,
    "abc" * 20,
    (FIBONACCI * 3)[:60],
    "abcdefghijklmnopqrstuvwxyz" * 2 + "abcdefgh",
    "abcdefghijklmnopqrstuvwxyzzyxwvutsrqponmlkjihgfedcba",
    "aabbaaabbbaaaabbbbaaaaabbbbb" * 2,
    "abracadabraabracadabra",
    "mississippimississippi",
)


def rows_to(letters, most):
    """All rows of these letters of 0 to so many letters."""
    return ["".join(signs) for many in range(most + 1) for signs in product(letters, repeat=many)]


def all_marks(row):
    """All rising lists of places of the row."""
    return [list(marks) for many in range(len(row) + 1)
            for marks in combinations(range(len(row)), many)]


def standing(row):
    """The set of all words that stand in the row."""
    return {row[i:j] for i in range(len(row)) for j in range(i + 1, len(row) + 1)}


def places_of(row, word):
    return [i for i in range(len(row)) if row[i:].startswith(word)]


def stands_over(row, marks, word, place):
    taken = range(place, place + len(word))
    return place in places_of(row, word) and any(mark in taken for mark in marks)


def over_of(row, marks, word):
    met = [i for i in places_of(row, word) if stands_over(row, marks, word, i)]
    return met[0] if met else None


def in_order(words):
    return sorted(words, key=lambda word: (len(word), word))


def lacking_of(row, marks):
    words = [w for w in standing(row) if over_of(row, marks, w) is None]
    return in_order(words)[0] if words else None


def net(row, marks):
    return lacking_of(row, marks) is None


def nets_of(row):
    return [marks for marks in all_marks(row) if net(row, marks)]


def raised(test, error, call, *handed):
    """Test that a call is refused with just this class of error, made with one text."""
    with test.assertRaises(error) as caught:
        call(*handed)
    test.assertIs(type(caught.exception), error)
    test.assertEqual(len(caught.exception.args), 1)
    test.assertIs(type(caught.exception.args[0]), str)
