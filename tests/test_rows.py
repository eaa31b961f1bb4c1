import unittest

import by_hand
from likemarks.rows import counts, is_row, places, unlike


class IsRow(unittest.TestCase):
    """[1.1]"""

    def test_texts_of_letters_are_rows(self):
        for row in ("", "a", "z", "abcxyz", "abcdefghijklmnopqrstuvwxyz", "m" * 59, "m" * 60):
            self.assertIs(is_row(row), True, row)

    def test_longer_texts_are_none(self):
        for row in ("m" * 61, "ab" * 31, "a" * 100000):
            self.assertIs(is_row(row), False)

    def test_texts_with_other_signs_are_none(self):
        for sign in [chr(k) for k in range(32, 127) if chr(k) not in "abcdefghijklmnopqrstuvwxyz%"]:
            self.assertIs(is_row(sign), False, sign)
            self.assertIs(is_row("ab" + sign), False, sign)
            self.assertIs(is_row(sign + "ab"), False, sign)
        for text in ("\n", "ab\n", "a b", "A", "aBc", "a1", "`", "{", "a" * 59 + "."):
            self.assertIs(is_row(text), False, text)

    def test_things_of_other_kinds_are_none(self):
        things = (None, True, False, 0, 1, -5, 10 ** 59, [], ["a"], ["a", "b"], (), ("a",),
                  {}, {"a": 1}, {"a"}, b"", b"abc", is_row, int, object(), [["a"]], range(3))
        for thing in things:
            self.assertIs(is_row(thing), False, thing)


class Places(unittest.TestCase):
    """[1.1], [1.2]"""

    def test_once_often_and_nowhere(self):
        self.assertEqual(places("abcab", "c"), [2])
        self.assertEqual(places("abcab", "abcab"), [0])
        self.assertEqual(places("abcab", "ab"), [0, 3])
        self.assertEqual(places("abcab", "b"), [1, 4])
        self.assertEqual(places("abcab", "ba"), [])
        self.assertEqual(places("abcab", "z"), [])

    def test_words_that_reach_into_themselves(self):
        self.assertEqual(places("aaaa", "aa"), [0, 1, 2])
        self.assertEqual(places("abababa", "aba"), [0, 2, 4])

    def test_words_longer_than_the_row(self):
        self.assertEqual(places("ab", "aba"), [])
        self.assertEqual(places("ab", "ab" * 30), [])
        self.assertEqual(places("ab" * 30, "ab" * 31), [])

    def test_the_row_without_letters(self):
        self.assertEqual(places("", "a"), [])
        self.assertEqual(places("", "a" * 60), [])

    def test_all_words_of_small_rows(self):
        for row in by_hand.rows_to("ab", 6):
            for word in by_hand.rows_to("abc", 4)[1:]:
                self.assertEqual(places(row, word), by_hand.places_of(row, word))


class Unlike(unittest.TestCase):
    """[1.2]"""

    def test_of_one_letter(self):
        self.assertEqual(unlike("mississippi", 1), ["i", "m", "p", "s"])

    def test_of_some_letters_sorted_and_each_once(self):
        self.assertEqual(unlike("banana", 2), ["an", "ba", "na"])
        self.assertEqual(unlike("cbacba", 3), ["acb", "bac", "cba"])
        self.assertEqual(unlike("aaaa", 3), ["aaa"])

    def test_of_all_letters_and_of_more(self):
        self.assertEqual(unlike("banana", 6), ["banana"])
        for many in (7, 8, 60, 10 ** 59):
            self.assertEqual(unlike("banana", many), [])

    def test_of_the_row_without_letters(self):
        for many in (1, 2, 60):
            self.assertEqual(unlike("", many), [])

    def test_small_rows(self):
        for row in by_hand.rows_to("ab", 7):
            words = by_hand.standing(row)
            for many in range(1, len(row) + 3):
                want = sorted(word for word in words if len(word) == many)
                self.assertEqual(unlike(row, many), want)


class Counts(unittest.TestCase):
    """[1.2]"""

    def test_ordinary_rows(self):
        self.assertEqual(counts("a"), [1])
        self.assertEqual(counts("banana"), [3, 3, 3, 3, 2, 1])
        self.assertEqual(counts("aaaa"), [1, 1, 1, 1])
        self.assertEqual(counts("abcd"), [4, 3, 2, 1])

    def test_the_row_without_letters(self):
        self.assertEqual(counts(""), [])

    def test_long_rows(self):
        for row in by_hand.LONG_ROWS:
            words = by_hand.standing(row)
            want = [0] * len(row)
            for word in words:
                want[len(word) - 1] += 1
            self.assertEqual(counts(row), want)


class Told(unittest.TestCase):
    """[0.2]"""

    def test_a_told_list_is_the_askers_own(self):
        for call, handed in ((places, ("abab", "ab")), (unlike, ("abab", 2)), (counts, ("abab",))):
            told = call(*handed)
            kept = list(told)
            told.append("more")
            self.assertEqual(call(*handed), kept)


if __name__ == "__main__":
    unittest.main()
