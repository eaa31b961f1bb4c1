import unittest
from copy import deepcopy

import by_hand
from likemarks.errors import NoStand
from likemarks.graph import arc_marks, graph_of, hull, hull_in, often_in, unlike_in
from likemarks.heads import heads

SMALL = by_hand.rows_to("ab", 7) + by_hand.rows_to("abc", 5)
BANANA = (["", "a", "ana", "banana"],
          [(0, "a", 1, 0), (0, "b", 3, 0), (0, "n", 2, 1), (1, "n", 2, 0), (2, "n", 3, 1)])
GIVEN = "bbabbbabbaabbabaabbbbababababaabbabbbabaababbaabbaabbbababba"


def all_places(row, word):
    """The places of a word, or of the one without letters."""
    return [i for i in range(len(row) - len(word) + 1) if row[i:i + len(word)] == word]


def words_with(row):
    """All words that stand, and the one without letters, in the order of words."""
    return [""] + by_hand.in_order(by_hand.standing(row))


def hull_by_the_words(row, word):
    """Led on to the right and to the left letter by letter: (hull, letters ahead)."""
    ahead = 0
    while True:
        places = all_places(row, word)
        right = {row[i + len(word):i + len(word) + 1] for i in places}
        left = {row[i - 1] if i > 0 else "" for i in places}
        if len(right) == 1 and "" not in right:
            word = word + right.pop()
        elif len(left) == 1 and "" not in left:
            word = left.pop() + word
            ahead += 1
        else:
            return (word, ahead)


def graph_by_the_words(row):
    words = words_with(row)
    knots = [word for word in words if hull_by_the_words(row, word)[0] == word]
    arcs = []
    for number, knot in enumerate(knots):
        for letter in "abcdefghijklmnopqrstuvwxyz":
            if knot + letter in words:
                goal, ahead = hull_by_the_words(row, knot + letter)
                arcs.append((number, letter, knots.index(goal), ahead))
    return (knots, sorted(arcs))


class Hull(unittest.TestCase):
    """[8.1]"""

    def test_ordinary_words(self):
        self.assertEqual(hull("banana", "n"), "ana")
        self.assertEqual(hull("banana", "an"), "ana")
        self.assertEqual(hull("banana", "a"), "a")
        self.assertEqual(hull("banana", "b"), "banana")
        self.assertEqual(hull("banana", "nan"), "banana")
        self.assertEqual(hull("xabyab", "b"), "ab")

    def test_the_word_without_letters(self):
        for row in ("", "a", "aa", "banana", "a" * 60, "ab" * 30):
            self.assertEqual(hull(row, ""), "")

    def test_the_row(self):
        for row in ("a", "aa", "banana", "a" * 60, GIVEN):
            self.assertEqual(hull(row, row), row)

    def test_beyond_the_row_there_is_no_letter(self):
        self.assertEqual(hull("aab", "a"), "a")
        self.assertEqual(hull("baa", "a"), "a")
        self.assertEqual(hull("abab", "ab"), "ab")
        self.assertEqual(hull("abab", "b"), "ab")
        self.assertEqual(hull("baba", "b"), "ba")
        self.assertEqual(hull("aaaa", "aa"), "aa")

    def test_letter_by_letter(self):
        for row in SMALL:
            for word in words_with(row):
                self.assertEqual(hull(row, word), hull_by_the_words(row, word)[0], (row, word))

    def test_as_many_places_always_as_far_ahead(self):
        for row in SMALL[:300] + ["abracadabraabracadabra", "mississippi", GIVEN]:
            for word in words_with(row):
                told = hull(row, word)
                begins, places = all_places(row, told), all_places(row, word)
                self.assertEqual(len(begins), len(places))
                self.assertEqual(len({place - begin for begin, place in zip(begins, places)}), 1)
                self.assertEqual(hull(row, told), told)

    def test_a_word_that_stands_nowhere_is_refused(self):
        for row, word in (("banana", "c"), ("banana", "nb"), ("banana", "bananas"), ("banana", "a" * 60),
                          ("", "a"), ("", "a" * 60), ("aaa", "aaaa"), ("a" * 60, "b"), ("a" * 59, "a" * 60)):
            by_hand.raised(self, NoStand, hull, row, word)


class GraphOf(unittest.TestCase):
    """[8.2]"""

    def test_an_ordinary_row(self):
        self.assertEqual(graph_of("banana"), BANANA)

    def test_rows_of_no_and_of_one_letter(self):
        self.assertEqual(graph_of(""), ([""], []))
        self.assertEqual(graph_of("a"), (["", "a"], [(0, "a", 1, 0)]))
        self.assertEqual(graph_of("z"), (["", "z"], [(0, "z", 1, 0)]))

    def test_like_letters(self):
        knots, arcs = graph_of("a" * 60)
        self.assertEqual(knots, ["a" * many for many in range(61)])
        self.assertEqual(arcs, [(many, "a", many + 1, 0) for many in range(60)])

    def test_unlike_letters(self):
        self.assertEqual(graph_of("abc"), (["", "abc"], [(0, "a", 1, 0), (0, "b", 1, 1), (0, "c", 1, 2)]))

    def test_the_knots_in_the_order_of_words(self):
        self.assertEqual(graph_of("aabb")[0], ["", "a", "b", "aabb"])
        self.assertEqual(graph_of("ccabab")[0], ["", "c", "ab", "ccabab"])
        self.assertEqual(graph_of("cbcbabcab")[0], ["", "b", "c", "ab", "bc", "cb", "cbcbabcab"])

    def test_knot_by_knot_and_arc_by_arc(self):
        for row in SMALL + ["abracadabraabracadabra", "mississippi"]:
            told = graph_of(row)
            self.assertEqual(told, graph_by_the_words(row), row)
            self.assertEqual((told[0][0], told[0][-1]), ("", row))

    def test_long_rows(self):
        for row in by_hand.LONG_ROWS + (GIVEN,):
            knots, arcs = graph_of(row)
            self.assertEqual(knots, sorted(set(knots), key=lambda word: (len(word), word)))
            self.assertEqual(arcs, sorted(set(arcs)))
            self.assertEqual((knots[0], knots[-1]), ("", row))
            for knot in knots:
                self.assertEqual(hull_by_the_words(row, knot), (knot, 0))
            for start, letter, goal, ahead in arcs:
                want = hull_by_the_words(row, knots[start] + letter)
                self.assertEqual((knots[goal], ahead), want)
            letters = sorted(set(row))
            stand = [(k, letter) for k, knot in enumerate(knots) for letter in letters if knot + letter in row]
            self.assertEqual([arc[:2] for arc in arcs], stand)

    def test_the_kinds_of_what_is_told(self):
        told = graph_of("banana")
        self.assertEqual([type(part) for part in told], [list, list])
        self.assertIs(type(told), tuple)
        self.assertEqual({type(arc) for arc in told[1]}, {tuple})


class FromTheGraphAlone(unittest.TestCase):
    """[8.3]"""

    def test_hull_in_an_ordinary_graph(self):
        for word, want in (("", (0, 0)), ("a", (1, 0)), ("n", (2, 1)), ("an", (2, 0)), ("na", (2, 1)), ("ana", (2, 0)),
                           ("b", (3, 0)), ("nan", (3, 2)), ("anana", (3, 1)), ("banana", (3, 0)), ("anan", (3, 1))):
            self.assertEqual(hull_in(deepcopy(BANANA), word), want, word)

    def test_hull_in_of_words_that_do_not_stand(self):
        for word in ("c", "nb", "aa", "bananas", "ananas", "bananab", "nann", "bb", "z" * 60, "ab", "banab", "banann"):
            self.assertIsNone(hull_in(deepcopy(BANANA), word), word)
        for word in ("a", "b", "a" * 60):
            self.assertIsNone(hull_in(([""], []), word))
        self.assertEqual(hull_in(([""], []), ""), (0, 0))

    def test_hull_in_by_all_words(self):
        words = by_hand.rows_to("abc", 5)
        for row in by_hand.rows_to("ab", 6) + by_hand.rows_to("abc", 4):
            graph = deepcopy(graph_of(row))
            for word in words:
                want = None
                if all_places(row, word):
                    told, ahead = hull_by_the_words(row, word)
                    want = (graph[0].index(told), ahead)
                self.assertEqual(hull_in(graph, word), want, (row, word))

    def test_hull_in_of_long_rows(self):
        for row in by_hand.LONG_ROWS + (GIVEN,):
            graph = graph_of(row)
            self.assertIsNone(hull_in(graph, row + "a"))
            self.assertIsNone(hull_in(graph, row + row[:1]))
            for word in sorted(by_hand.standing(row))[::17]:
                told, ahead = hull_by_the_words(row, word)
                self.assertEqual(hull_in(graph, word), (graph[0].index(told), ahead))
                self.assertIs(type(hull_in(graph, word)), tuple)

    def test_often_in(self):
        self.assertEqual(often_in(deepcopy(BANANA)), [7, 3, 2, 1])
        self.assertEqual(often_in(([""], [])), [1])
        for row in SMALL + list(by_hand.LONG_ROWS) + [GIVEN]:
            graph = deepcopy(graph_of(row))
            self.assertEqual(often_in(graph), [len(all_places(row, knot)) for knot in graph[0]], row)

    def test_unlike_in(self):
        self.assertEqual(unlike_in(deepcopy(BANANA)), 15)
        self.assertEqual(unlike_in(([""], [])), 0)
        for row in SMALL + list(by_hand.LONG_ROWS) + [GIVEN]:
            self.assertEqual(unlike_in(deepcopy(graph_of(row))), len(by_hand.standing(row)), row)


class ArcMarks(unittest.TestCase):
    """[8.4]"""

    def test_ordinary_rows(self):
        # a at 0 + 1, b at 0, n at 2; "an" at 1, its n at 2; "anan" at 1, its last n at 4.
        self.assertEqual(arc_marks("banana"), [0, 1, 2, 4])
        self.assertEqual(arc_marks("abc"), [0, 1, 2])
        self.assertEqual(arc_marks("abab"), [0, 1, 2])
        self.assertEqual(arc_marks("aaa"), [0, 1, 2])

    def test_rows_of_no_and_of_one_letter(self):
        self.assertEqual(arc_marks(""), [])
        self.assertEqual(arc_marks("a"), [0])

    def test_arc_by_arc(self):
        for row in SMALL:
            knots, arcs = graph_by_the_words(row)
            words = [knots[start] + letter for start, letter, _, _ in arcs]
            want = sorted({all_places(row, word)[0] + len(word) - 1 for word in words})
            self.assertEqual(arc_marks(row), want, row)

    def test_a_net(self):
        for row in SMALL + list(by_hand.LONG_ROWS) + [GIVEN]:
            self.assertTrue(by_hand.net(row, arc_marks(row)), row)

    def test_no_more_arcs_than_heads(self):
        for row in SMALL + list(by_hand.LONG_ROWS) + [GIVEN]:
            self.assertLessEqual(len(graph_of(row)[1]), len(heads(row)), row)


class Told(unittest.TestCase):
    """[0.2]"""

    def test_what_is_handed_in_stays(self):
        graph = deepcopy(BANANA)
        for call in (often_in, unlike_in):
            call(graph)
        hull_in(graph, "nan")
        hull_in(graph, "nana" * 3)
        self.assertEqual(graph, BANANA)

    def test_what_is_told_is_the_askers_own(self):
        for part in (0, 1):
            graph_of("banana")[part].clear()
            graph_of("banana")[part].append("more")
        self.assertEqual(graph_of("banana"), BANANA)
        often_in(BANANA).clear()
        self.assertEqual(often_in(BANANA), [7, 3, 2, 1])
        arc_marks("banana").clear()
        self.assertEqual(arc_marks("banana"), [0, 1, 2, 4])

    def test_no_two_told_lists_are_one(self):
        told = [part for _ in range(3) for part in graph_of("banana")]
        told += [often_in(BANANA), often_in(BANANA), arc_marks("banana"), arc_marks("banana"), *BANANA]
        self.assertEqual(len({id(part) for part in told}), len(told))

    def test_a_graph_that_is_changed_later_is_asked_anew(self):
        graph = graph_of("banana")
        self.assertEqual(unlike_in(graph), 15)
        other = graph_of("abc")
        graph[0][:], graph[1][:] = other[0], other[1]
        self.assertEqual(unlike_in(graph), 6)
        self.assertEqual(hull_in(graph, "c"), (1, 2))
        self.assertEqual(often_in(graph), [4, 1])


if __name__ == "__main__":
    unittest.main()
