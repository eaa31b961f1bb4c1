import unittest
from copy import deepcopy

import by_hand
from likemarks.cases import are_cases, cases_for
from likemarks.errors import NoPlace, TooMany
from likemarks.fewest import fewest_net

FAR = 10 ** 59
ROWS = by_hand.rows_to("ab", 6) + by_hand.rows_to("abc", 4) + [
    "banana", "abcabca", "aabbcc", "abbaabba", "mississippi", "ceebaabaecbc", "aafbbeebbaff", "ccacacbabbba"]


def lies_in(row, word):
    """All places that lie in some stretch of a word, rising."""
    starts = by_hand.places_of(row, word)
    return [place for place in range(len(row))
            if any(start <= place < start + len(word) for start in starts)]


def told_by_the_words(row, many, taken):
    word = by_hand.lacking_of(row, sorted(taken))
    if many == 0:
        return (word, [])
    return (word, [(place, told_by_the_words(row, many - 1, taken + [place])) for place in lies_in(row, word)])


def right_by_the_words(row, many, thing, taken=()):
    word, listed = thing
    if many < 0 or word not in by_hand.standing(row) or any(place in taken for place in lies_in(row, word)):
        return False
    if many == 0:
        return listed == []
    return [place for place, _ in listed] == lies_in(row, word) and all(
        right_by_the_words(row, many - 1, below, taken + (place,)) for place, below in listed)


def bent(thing, words):
    """All cases that come of some by one change, at any depth."""
    word, listed = thing
    found = [(other, listed) for other in words if other != word]
    for k, (place, below) in enumerate(listed):
        head, tail = listed[:k], listed[k + 1:]
        found += [(word, head + tail), (word, head + [listed[k]] + listed[k:]), (word, head + [listed[k]])]
        found += [(word, head + [(other, below)] + tail) for other in (place - 1, place + 1, -1, 12, FAR)]
        found += [(word, tail + head + [listed[k]]), (word, listed[::-1]), (word, [])]
        found += [(word, head + [(place, other)] + tail) for other in bent(below, words)]
    found += [(word, listed + [(place, (word, []))]) for place in (0, len(listed), 11)]
    return [other for other in found if other != thing]


class CasesFor(unittest.TestCase):
    """[11.1]"""

    def test_ordinary_rows(self):
        self.assertEqual(cases_for("a", 0), ("a", []))
        self.assertEqual(cases_for("ab", 0), ("a", []))
        self.assertEqual(cases_for("ab", 1), ("a", [(0, ("b", []))]))
        self.assertEqual(cases_for("aab", 1), ("a", [(0, ("b", [])), (1, ("b", []))]))
        self.assertEqual(cases_for("banana", 2), ("a", [
            (1, ("b", [(0, ("n", []))])), (3, ("b", [(0, ("n", []))])), (5, ("b", [(0, ("n", []))]))]))

    def test_each_number_below_the_fewest(self):
        for row in ROWS:
            for many in range(len(fewest_net(row))):
                self.assertEqual(cases_for(row, many), told_by_the_words(row, many, []), (row, many))

    def test_no_place(self):
        for row in ROWS:
            fewest = len(fewest_net(row))
            for many in (fewest, fewest + 1, len(row) + 1, 13, 60, FAR, -1, -2, -fewest, -FAR):
                if many < 0 or many >= fewest:
                    by_hand.raised(self, NoPlace, cases_for, row, many)

    def test_the_row_without_letters_has_none(self):
        for many in (0, 1, -1):
            by_hand.raised(self, NoPlace, cases_for, "", many)

    def test_too_many_ahead_of_no_place(self):
        for row in ("a" * 13, "abcdefghijklm", "ab" * 30):
            for many in (0, 1, -1, 12, 13, FAR, -FAR):
                by_hand.raised(self, TooMany, cases_for, row, many)

    def test_twelve_letters(self):
        for row in ("abcdefghijkl", "aaaaaaaaaaaa", "abababababab", "aabbccaabbcc"):
            many = len(fewest_net(row)) - 1
            self.assertEqual(cases_for(row, many), told_by_the_words(row, many, []))


class AreCases(unittest.TestCase):
    """[11.1]"""

    def test_told_ones(self):
        for row in ROWS + ["abcdefghijkl", "aaaaaaaaaaaa", "abababababab"]:
            for many in range(len(fewest_net(row))):
                self.assertIs(are_cases(row, many, cases_for(row, many)), True, (row, many))

    def test_for_another_number(self):
        for row in ("ab", "banana", "mississippi", "abcabca"):
            fewest = len(fewest_net(row))
            for many in range(fewest):
                for other in (many - 1, many + 1, fewest, -1, -many - 1, 13, FAR, -FAR):
                    self.assertIs(are_cases(row, other, cases_for(row, many)), other == many)

    def test_other_words_do_too(self):
        self.assertIs(are_cases("ab", 1, ("b", [(1, ("a", []))])), True)
        self.assertIs(are_cases("aab", 1, ("b", [(2, ("a", []))])), True)
        self.assertIs(are_cases("aab", 1, ("b", [(2, ("aa", []))])), True)
        self.assertIs(are_cases("ab", 0, ("ab", [])), True)
        self.assertIs(are_cases("aab", 1, ("aa", [(0, ("b", [])), (1, ("b", []))])), True)

    def test_a_word_over_a_taken_place(self):
        self.assertIs(are_cases("ab", 1, ("a", [(0, ("a", []))])), False)
        self.assertIs(are_cases("ab", 1, ("a", [(0, ("ab", []))])), False)
        self.assertIs(are_cases("ab", 1, ("ab", [(0, ("b", [])), (1, ("a", []))])), True)
        self.assertIs(are_cases("ab", 1, ("ab", [(0, ("b", [])), (1, ("b", []))])), False)
        # A stretch of it elsewhere over a taken place is enough.
        self.assertIs(are_cases("aab", 1, ("b", [(2, ("ab", []))])), False)
        self.assertIs(are_cases("abab", 1, ("ab", [(k, ("a", [])) for k in range(4)])), False)

    def test_a_word_that_stands_nowhere(self):
        for word in ("c", "ba", "aa", "abc", "z" * 60, "ab" * 30):
            self.assertIs(are_cases("ab", 0, (word, [])), False, word)
            self.assertIs(are_cases("ab", 1, ("a", [(0, (word, []))])), False, word)

    def test_places_left_out_told_twice_moved_or_out_of_order(self):
        one, two = (0, ("b", [])), (1, ("b", []))
        self.assertIs(are_cases("aab", 1, ("a", [one, two])), True)
        for listed in ([], [one], [two], [two, one], [one, one], [one, two, two], [one, one, two], [one, two, one],
                       [one, two, (2, ("b", []))], [one, (2, ("b", []))], [(-1, ("b", [])), two],
                       [one, (FAR, ("b", []))], [one, (-2, ("b", []))]):
            self.assertIs(are_cases("aab", 1, ("a", listed)), False, listed)

    def test_cases_where_there_are_to_be_none(self):
        self.assertIs(are_cases("ab", 0, ("a", [(0, ("b", []))])), False)
        self.assertIs(are_cases("ab", 1, ("a", [(0, ("b", [(1, ("a", []))]))])), False)
        self.assertIs(are_cases("ab", 2, ("a", [(0, ("b", [(1, ("a", []))]))])), False)
        self.assertIs(are_cases("ab", 2, ("a", [(0, ("b", []))])), False)

    def test_bent_at_any_depth(self):
        for row in ("a", "ab", "aab", "abab", "abba", "banana", "abcab"):
            words = sorted(by_hand.standing(row)) + ["c", "aaaa", "z"]
            many = len(fewest_net(row)) - 1
            told = cases_for(row, many)
            for thing in bent(told, words):
                self.assertIs(are_cases(row, many, thing), right_by_the_words(row, many, thing), (row, thing))

    def test_bent_twice(self):
        for row in ("ab", "aab", "aba"):
            words = sorted(by_hand.standing(row))
            for once in bent(cases_for(row, 1), words):
                for thing in bent(once, words):
                    for many in (0, 1, 2):
                        self.assertIs(are_cases(row, many, thing), right_by_the_words(row, many, thing), (row, thing))

    def test_none_are_cases_for_the_fewest_or_more(self):
        for row in ("", "a", "ab", "aab"):
            for thing in ((word, listed) for word in ("a", "b", "aa") for listed in (
                    [], [(0, ("a", []))], [(0, ("b", [(1, ("a", [])), (2, ("a", []))]))])):
                for many in range(len(fewest_net(row)), 5):
                    self.assertIs(are_cases(row, many, thing), False)

    def test_the_row_without_letters(self):
        for many in (0, 1, -1):
            self.assertIs(are_cases("", many, ("a", [])), False)

    def test_too_many(self):
        for row in ("a" * 13, "ab" * 30):
            for many in (0, 1, -1, FAR):
                by_hand.raised(self, TooMany, are_cases, row, many, ("a", []))

    def test_things_not_made_so(self):
        for thing in (None, (), ("a",), ("a", [], []), ["a", []], "a", ("a", ()), ("a", None), (None, []), ("", []),
                      ("a", [0]), ("a", [(0,)]), ("a", [[0, ("b", [])]]), ("a", [(False, ("b", []))]),
                      ("a", [(0, None)]), ("a", [(0, ["b", []])])):
            self.assertIs(are_cases("ab", 1, thing), False, thing)
            self.assertIs(are_cases("ab", 0, thing), False, thing)


class Told(unittest.TestCase):
    """[0.2]"""

    def test_what_is_handed_in_stays(self):
        told = cases_for("banana", 2)
        kept = deepcopy(told)
        are_cases("banana", 2, told)
        are_cases("banana", 1, told)
        self.assertEqual(told, kept)

    def test_what_is_told_is_the_askers_own(self):
        for row in ("banana", "mississippi"):
            many = len(fewest_net(row)) - 1
            kept = deepcopy(cases_for(row, many))
            for part in by_hand.lists_within(cases_for(row, many)):
                part.clear()
            self.assertEqual(cases_for(row, many), kept)

    def test_no_two_told_lists_are_one(self):
        told = [cases_for(row, many) for row, many in (
            ("banana", 2), ("banana", 2), ("banana", 1), ("banana", 0), ("banana", 0), ("mississippi", 3))]
        by_hand.all_one_each(self, *told)


if __name__ == "__main__":
    unittest.main()
