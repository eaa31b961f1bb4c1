import unittest
from copy import deepcopy
from itertools import combinations

import by_hand
from likemarks.floors import are_apart, count_floor


def floor_by_the_words(row):
    found = [(0, 0)]
    for many in range(1, len(row) + 1):
        count = len({row[i:i + many] for i in range(len(row) - many + 1)})
        found.append((count // many + (1 if count - count // many * many else 0), many))
    greatest = max(floor for floor, _ in found)
    return next(entry for entry in found if entry[0] == greatest)


def apart_by_the_words(row, words):
    if any(word not in by_hand.standing(row) for word in words):
        return False
    up = [{start + k for start in by_hand.places_of(row, word) for k in range(len(word))} for word in words]
    return len(set(words)) == len(words) and all(not one & other for one, other in combinations(up, 2))


class CountFloor(unittest.TestCase):
    """[11.2]"""

    def test_the_row_without_letters(self):
        self.assertEqual(count_floor(""), (0, 0))

    def test_one_letter(self):
        self.assertEqual(count_floor("a"), (1, 1))
        self.assertEqual(count_floor("a" * 60), (1, 1))

    def test_ordinary_rows(self):
        self.assertEqual(count_floor("banana"), (3, 1))
        self.assertEqual(count_floor("abcdefghijklmnopqrstuvwxyz"), (26, 1))

    def test_several_have_the_greatest(self):
        # The counts are 2, 4, 4, 3, ..: 2, 4 / 2 and 4 / 3, rounded up, are all 2.
        self.assertEqual(count_floor("aabbaa"), (2, 1))
        self.assertEqual(count_floor("ab"), (2, 1))
        self.assertEqual(count_floor("ab" * 30), (2, 1))

    def test_not_of_one_letter(self):
        # All eight words of three letters stand: 8 / 3, rounded up.
        self.assertEqual(count_floor("aaababbbaa"), (3, 3))
        self.assertEqual(count_floor("aaaabaabbababbbbaaa"), (4, 4))

    def test_small_rows(self):
        for row in by_hand.rows_to("ab", 10) + by_hand.rows_to("abc", 6):
            self.assertEqual(count_floor(row), floor_by_the_words(row), row)

    def test_long_rows(self):
        for row in by_hand.LONG_ROWS:
            for many in range(0, len(row) + 1, 3):
                self.assertEqual(count_floor(row[:many]), floor_by_the_words(row[:many]))
            self.assertEqual(count_floor(row), floor_by_the_words(row), row)

    def test_it_is_a_floor(self):
        for row in by_hand.rows_to("ab", 6) + by_hand.rows_to("abc", 4):
            self.assertLessEqual(count_floor(row)[0], min(len(marks) for marks in by_hand.nets_of(row)))


class AreApart(unittest.TestCase):
    """[11.2]"""

    def test_no_words(self):
        for row in ("", "a", "banana", "a" * 60):
            self.assertIs(are_apart(row, []), True)

    def test_words_apart(self):
        self.assertIs(are_apart("banana", ["b", "a", "n"]), True)
        self.assertIs(are_apart("banana", ["n", "b"]), True)
        self.assertIs(are_apart("banana", ["banana"]), True)
        self.assertIs(are_apart("aabbcc", ["aa", "bb", "cc"]), True)
        self.assertIs(are_apart("ab" * 20 + "cd" * 10, ["ba", "cdc"]), True)

    def test_told_twice(self):
        self.assertIs(are_apart("banana", ["b", "b"]), False)
        self.assertIs(are_apart("banana", ["b", "n", "b"]), False)

    def test_one_that_stands_nowhere(self):
        for word in ("c", "nb", "bananab", "z" * 60, "banana" * 10):
            self.assertIs(are_apart("banana", [word]), False)
            self.assertIs(are_apart("banana", ["b", word]), False)
            self.assertIs(are_apart("banana", [word, "b"]), False)
        self.assertIs(are_apart("", ["a"]), False)
        self.assertIs(are_apart("a", ["aa"]), False)

    def test_words_that_share_a_place(self):
        self.assertIs(are_apart("banana", ["ba", "an"]), False)
        self.assertIs(are_apart("banana", ["a", "na"]), False)
        # At one of its places a word may lie apart: that isn't enough.
        self.assertIs(are_apart("abcab", ["ab", "bc"]), False)
        self.assertIs(are_apart("aab", ["aa", "b"]), True)
        self.assertIs(are_apart("aab", ["a", "b"]), True)
        self.assertIs(are_apart("aab", ["aa", "ab"]), False)

    def test_small_rows(self):
        for row in by_hand.rows_to("ab", 4) + ["abcab", "aabbc", "banana"]:
            words = sorted(by_hand.standing(row)) + ["c", "bba"]
            for many in range(4):
                for some in combinations(words, many):
                    for told in (list(some), list(some)[::-1], list(some) + list(some)[:1]):
                        self.assertIs(are_apart(row, told), apart_by_the_words(row, told), (row, told))

    def test_each_net_has_as_many_marks(self):
        for row in by_hand.rows_to("ab", 5) + by_hand.rows_to("abc", 4):
            fewest = min(len(marks) for marks in by_hand.nets_of(row))
            words = sorted(by_hand.standing(row))
            for some in combinations(words, fewest + 1):
                self.assertIs(are_apart(row, list(some)), False)

    def test_what_is_handed_in_stays(self):
        words = ["b", "an", "n", "zz"]
        kept = deepcopy(words)
        are_apart("banana", words)
        self.assertEqual(words, kept)


if __name__ == "__main__":
    unittest.main()
