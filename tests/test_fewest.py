import unittest
from itertools import combinations

import by_hand
from likemarks.errors import TooMany
from likemarks.fewest import fewest_net
from likemarks.nets import is_net

TWELVES = ("abababababab", "aabbaabbaabb", "abcabcabcabc", "abcdefghijkl", "lkjihgfedcba", "abbabaabbaab",
           "abaababaabaa", "abacabadabac", "aaaaaabbbbbb", "aaaaaaaaaaab", "baaaaaaaaaaa", "zyzyyzzyzyyz",
           "fafbababfged", "bbabbbabbaab")


def fewest_by_trying(row):
    """The first net where all lists of places are gone through, those of fewer marks first."""
    for many in range(len(row) + 1):
        for marks in combinations(range(len(row)), many):
            if is_net(row, list(marks)):
                return list(marks)


class FewestNet(unittest.TestCase):
    """[11.1]"""

    def test_the_row_without_letters(self):
        self.assertEqual(fewest_net(""), [])

    def test_one_letter(self):
        self.assertEqual(fewest_net("a"), [0])
        self.assertEqual(fewest_net("z"), [0])

    def test_like_letters(self):
        for many in range(1, 13):
            self.assertEqual(fewest_net("a" * many), [0])

    def test_unlike_letters(self):
        for many in range(1, 13):
            self.assertEqual(fewest_net("abcdefghijkl"[:many]), list(range(many)))

    def test_ordinary_rows(self):
        self.assertEqual(fewest_net("ab"), [0, 1])
        self.assertEqual(fewest_net("aab"), [0, 2])
        self.assertEqual(fewest_net("abab"), [0, 1])
        self.assertEqual(fewest_net("banana"), [0, 1, 2])
        self.assertEqual(fewest_net("mississippi"), [0, 5, 7, 9])

    def test_against_all_lists_of_places(self):
        for row in by_hand.rows_to("ab", 8) + by_hand.rows_to("abc", 6):
            self.assertEqual(fewest_net(row), by_hand.nets_of(row)[0] if len(row) < 6 else fewest_by_trying(row), row)

    def test_of_as_many_marks_the_least(self):
        for row in by_hand.rows_to("ab", 5) + by_hand.rows_to("abcd", 4):
            nets = by_hand.nets_of(row)
            fewest = min(len(marks) for marks in nets)
            self.assertEqual(fewest_net(row), min(marks for marks in nets if len(marks) == fewest))

    def test_twelve_letters(self):
        for row in TWELVES:
            self.assertEqual(len(row), 12)
            self.assertEqual(fewest_net(row), fewest_by_trying(row), row)

    def test_too_many(self):
        for row in ("a" * 13, "abcdefghijklm", "ab" * 7, "a" * 60, "ab" * 30, "abcdefghijklmnopqrstuvwxyz"):
            by_hand.raised(self, TooMany, fewest_net, row)

    def test_what_is_told_is_the_askers_own(self):
        fewest_net("banana").append(9)
        self.assertEqual(fewest_net("banana"), [0, 1, 2])
        self.assertIsNot(fewest_net("banana"), fewest_net("banana"))
        self.assertIsNot(fewest_net(""), fewest_net(""))


if __name__ == "__main__":
    unittest.main()
