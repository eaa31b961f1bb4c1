import unittest
from collections import Counter

import by_hand
from likemarks.errors import NoStand
from likemarks.heads import core_of, cores, head_of, heads, often, whole_of

SMALL = by_hand.rows_to("ab", 7) + by_hand.rows_to("abc", 5)
GIVEN = "bbabbbabbaabbabaabbbbababababaabbabbbabaababbaabbaabbbababba"


def often_by_hand(row, word):
    return sum(row[i:i + len(word)] == word for i in range(len(row) - len(word) + 1))


class Often(unittest.TestCase):
    """[3.1]"""

    def test_once_often_and_nowhere(self):
        self.assertEqual(often("banana", "b"), 1)
        self.assertEqual(often("banana", "a"), 3)
        self.assertEqual(often("banana", "ana"), 2)
        self.assertEqual(often("banana", "banana"), 1)
        self.assertEqual(often("banana", "c"), 0)
        self.assertEqual(often("banana", "nb"), 0)

    def test_longer_than_the_row(self):
        self.assertEqual(often("aaa", "aaaa"), 0)
        self.assertEqual(often("aaa", "a" * 60), 0)
        self.assertEqual(often("", "a"), 0)

    def test_the_word_without_letters(self):
        self.assertEqual(often("", ""), 1)
        self.assertEqual(often("a", ""), 2)
        self.assertEqual(often("banana", ""), 7)
        self.assertEqual(often("ab" * 30, ""), 61)


class HeadsAndCores(unittest.TestCase):
    """[3.1], [3.2]"""

    def test_ordinary_rows(self):
        self.assertEqual(heads("banana"), ["a", "an", "anan", "b", "n", "nan"])
        self.assertEqual(cores("banana"), ["a", "b", "n", "nan"])
        self.assertEqual(heads("abaab"), ["a", "aa", "ab", "aba", "b", "ba"])
        self.assertEqual(cores("abaab"), ["a", "aa", "b", "ba"])
        self.assertEqual(heads("aaa"), ["a", "aa", "aaa"])
        self.assertEqual(cores("aaa"), ["a", "aa", "aaa"])

    def test_the_row_without_letters(self):
        self.assertEqual(heads(""), [])
        self.assertEqual(cores(""), [])

    def test_by_the_words_of_the_document(self):
        for row in SMALL:
            def count(word):
                return often_by_hand(row, word)
            words = sorted(by_hand.standing(row))
            want = [w for w in words if count(w) < count(w[:-1])]
            self.assertEqual(heads(row), want)
            self.assertEqual(cores(row), [w for w in want if count(w) < count(w[1:])])

    def test_the_word_without_letters_is_none(self):
        for row in SMALL:
            self.assertNotIn("", heads(row))
            self.assertNotIn("", cores(row))

    def test_at_most_so_many_heads(self):
        for row in SMALL + list(by_hand.LONG_ROWS):
            if row:
                self.assertLessEqual(len(heads(row)), 2 * len(row) - 1)

    def test_told_lists_are_the_askers_own(self):
        for call in (heads, cores):
            kept = list(call("banana"))
            call("banana").clear()
            told = call("banana")
            told.append("more")
            self.assertEqual(call("banana"), kept)


class HeadOf(unittest.TestCase):
    """[3.2]"""

    def test_ordinary_words(self):
        self.assertEqual(head_of("banana", "ban"), "b")
        self.assertEqual(head_of("banana", "ana"), "an")
        self.assertEqual(head_of("banana", "a"), "a")
        self.assertEqual(head_of("abaab", "abaab"), "aba")

    def test_the_longest_head_with_just_the_places(self):
        for row in SMALL:
            told = heads(row)
            for word in by_hand.standing(row):
                head = head_of(row, word)
                begun = [other for other in told if word.startswith(other)]
                self.assertEqual(head, max(begun, key=len))
                self.assertEqual(by_hand.places_of(row, head), by_hand.places_of(row, word))


class WholeOf(unittest.TestCase):
    """[3.2]"""

    def test_ordinary_words(self):
        self.assertEqual(whole_of("banana", "b"), "banana")
        self.assertEqual(whole_of("banana", "n"), "na")
        self.assertEqual(whole_of("banana", "an"), "ana")
        self.assertEqual(whole_of("banana", "a"), "a")
        self.assertEqual(whole_of("banana", "banana"), "banana")

    def test_the_longest_word_that_stands_as_often(self):
        for row in SMALL:
            words = by_hand.standing(row)
            for word in words:
                alike = [w for w in words if w.startswith(word)
                         and often_by_hand(row, w) == often_by_hand(row, word)]
                self.assertEqual(whole_of(row, word), max(alike, key=len))

    def test_head_by_head_all_words_that_stand(self):
        for row in SMALL + list(by_hand.LONG_ROWS):
            found = []
            for head in heads(row):
                whole = whole_of(row, head)
                found += [whole[:many] for many in range(len(head), len(whole) + 1)]
            self.assertEqual(sorted(found), sorted(by_hand.standing(row)))


class CoreOf(unittest.TestCase):
    """[3.3]"""

    def test_ordinary_words(self):
        self.assertEqual(core_of("banana", "b"), ("b", 0))
        self.assertEqual(core_of("banana", "ban"), ("b", 0))
        self.assertEqual(core_of("banana", "na"), ("n", 0))
        self.assertEqual(core_of("banana", "ana"), ("n", 1))
        self.assertEqual(core_of("aab", "aab"), ("b", 2))

    def test_first_letters_are_left_out_ahead_of_last_ones(self):
        # With the last ones first it would be ("a", 0) and ("b", 0).
        self.assertEqual(core_of("abc", "abc"), ("c", 2))
        self.assertEqual(core_of("abcd", "bc"), ("c", 1))

    def test_what_has_no_core_shorter_stays(self):
        self.assertEqual(core_of("aaa", "aaa"), ("aaa", 0))
        self.assertEqual(core_of("aaa", "a"), ("a", 0))

    def test_small_rows(self):
        for row in SMALL:
            told = cores(row)
            for word in by_hand.standing(row):
                core, ahead = core_of(row, word)
                self.assertIn(core, told)
                moved = [place - ahead for place in by_hand.places_of(row, core)]
                self.assertEqual(by_hand.places_of(row, word), moved)
                rests = [k for k in range(len(word))
                         if often_by_hand(row, word[k:]) == often_by_hand(row, word)]
                self.assertEqual(ahead, max(rests))
                self.assertTrue(word[ahead:].startswith(core))
                self.assertIs(type(core_of(row, word)), tuple)


class ByAllWords(unittest.TestCase):
    """[3.2], [3.3]: of rows of sixteen and of sixty letters"""

    def test_rows_of_sixteen_letters(self):
        for row in ("bbabbbabbaabbaba", "a" * 16, "ab" * 8, "abcdefghijklmnop", "aab" * 5 + "a", "abaababaabaababa",
                    "a" * 15 + "b", "b" + "a" * 15, "aabbaabbaabbabba"):
            self.check(row)

    def test_rows_of_sixty_letters(self):
        for row in (GIVEN, GIVEN[::-1]) + by_hand.LONG_ROWS:
            self.check(row)

    def check(self, row):
        many = Counter(row[i:j] for i in range(len(row)) for j in range(i + 1, len(row) + 1))
        many[""] = len(row) + 1
        for word in many:
            if word:
                self.assertEqual(often(row, word), many[word])
                self.assertEqual(head_of(row, word), self.head(many, word), (row, word))
                self.assertEqual(whole_of(row, word), self.whole(row, many, word), (row, word))
                self.assertEqual(core_of(row, word), self.core(many, word), (row, word))

    def head(self, many, word):
        begun = [word[:k] for k in range(1, len(word) + 1) if many[word[:k]] < many[word[:k - 1]]]
        return begun[-1]

    def whole(self, row, many, word):
        begin = row.index(word)
        longer = [row[begin:behind] for behind in range(begin + len(word), len(row) + 1)]
        return [other for other in longer if many[other] == many[word]][-1]

    def core(self, many, word):
        ahead = max(k for k in range(len(word)) if many[word[k:]] == many[word])
        rest = word[ahead:]
        return (rest[:min(k for k in range(1, len(rest) + 1) if many[rest[:k]] == many[word])], ahead)


class NowhereStanding(unittest.TestCase):
    """[3.2], [3.3]: NoStand"""

    def test_a_word_that_stands_nowhere_is_refused(self):
        for row, word in (("banana", "c"), ("banana", "nb"), ("banana", "bananas"),
                          ("banana", "a" * 60), ("", "a"), ("aaa", "aaaa")):
            for call in (head_of, whole_of, core_of):
                by_hand.raised(self, NoStand, call, row, word)

    def test_the_word_without_letters_has_neither_head_nor_core(self):
        for row in ("", "a", "banana"):
            for call in (head_of, whole_of, core_of):
                by_hand.raised(self, NoStand, call, row, "")


if __name__ == "__main__":
    unittest.main()
