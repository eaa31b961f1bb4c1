import unittest

import by_hand
from likemarks.errors import NoNet
from likemarks.nets import is_net, lacking, leaner, over, own_words


class Over(unittest.TestCase):
    """[2.1], [2.2]"""

    def test_the_least_place(self):
        self.assertEqual(over("abcabc", [4], "b"), 4)
        self.assertEqual(over("abcabc", [1, 4], "b"), 1)
        self.assertEqual(over("abcabc", [4], "bc"), 4)
        self.assertEqual(over("abcabc", [5], "abc"), 3)
        self.assertEqual(over("aaaaaa", [3], "aa"), 2)
        self.assertEqual(over("aaaaaa", [0, 5], "aaa"), 0)
        self.assertEqual(over("aaaaaa", [5], "aaa"), 3)

    def test_the_first_and_last_place_that_a_word_takes_up(self):
        self.assertEqual(over("xabcx", [1], "abc"), 1)
        self.assertEqual(over("xabcx", [3], "abc"), 1)
        self.assertIsNone(over("xabcx", [0], "abc"))
        self.assertIsNone(over("xabcx", [4], "abc"))
        self.assertIsNone(over("xabcx", [0, 4], "abc"))

    def test_none_where_it_stands_nowhere_or_over_no_mark(self):
        self.assertIsNone(over("abcabc", [0, 1, 2], "d"))
        self.assertIsNone(over("abcabc", [0, 1, 2], "ac"))
        self.assertIsNone(over("abcabc", [0, 1], "c"))
        self.assertIsNone(over("abcabc", [], "a"))
        self.assertIsNone(over("ab", [0, 1], "aba"))
        self.assertIsNone(over("", [], "a"))

    def test_small_rows(self):
        for row in by_hand.rows_to("ab", 5):
            for marks in by_hand.all_marks(row):
                for word in by_hand.rows_to("ab", 3)[1:]:
                    self.assertEqual(over(row, marks, word), by_hand.over_of(row, marks, word))


class Lacking(unittest.TestCase):
    """[2.1], [2.2], [0.5]"""

    def test_the_first_in_the_order_of_words(self):
        self.assertEqual(lacking("ba", []), "a")
        self.assertEqual(lacking("ba", [1]), "b")
        # "aab" is ahead of "b" in the order of Python, but has more letters.
        self.assertEqual(lacking("aab", [0]), "b")
        self.assertEqual(lacking("abaab", [0, 1]), "aa")
        self.assertEqual(lacking("bbaab", [1, 2]), "ab")

    def test_none_of_a_net(self):
        self.assertIsNone(lacking("", []))
        self.assertIsNone(lacking("a", [0]))
        self.assertIsNone(lacking("aaaa", [1]))
        self.assertIsNone(lacking("abc", [0, 1, 2]))
        self.assertIsNone(lacking("abab", [1, 2]))

    def test_small_rows(self):
        for row in by_hand.rows_to("ab", 5) + by_hand.rows_to("abc", 4):
            for marks in by_hand.all_marks(row):
                self.assertEqual(lacking(row, marks), by_hand.lacking_of(row, marks))


class IsNet(unittest.TestCase):
    """[2.1], [2.2]"""

    def test_nets_and_marks_that_are_none(self):
        self.assertIs(is_net("abab", [1, 2]), True)
        self.assertIs(is_net("abab", [0, 1, 2, 3]), True)
        self.assertIs(is_net("abab", [0, 3]), False)
        self.assertIs(is_net("abab", [1]), False)
        self.assertIs(is_net("abab", []), False)

    def test_no_marks_are_a_net_of_the_row_without_letters_alone(self):
        self.assertIs(is_net("", []), True)
        for row in ("a", "ab", "a" * 60):
            self.assertIs(is_net(row, []), False)
        for thing in ([0], [1], [-1], [None], [""], [[]]):
            self.assertIs(is_net("", thing), False)

    def test_not_rising_or_twice(self):
        self.assertIs(is_net("ab", [0, 1]), True)
        for thing in ([1, 0], [0, 0, 1], [0, 1, 1], [0, 1, 0], [1, 0, 1]):
            self.assertIs(is_net("ab", thing), False, thing)

    def test_beyond_the_row(self):
        for thing in ([-1, 0, 1], [0, 1, 2], [0, 1, 3], [-2, -1], [0, 1, 10 ** 59], [-10 ** 59, 0, 1]):
            self.assertIs(is_net("ab", thing), False, thing)

    def test_things_of_other_kinds_within(self):
        for thing in ([False, True], [0, True], [False, 1], ["0", "1"], [0, "1"], ["a", "b"],
                      [None], [0, 1, None], [None, 0, 1], [[0, 1]], [[0], [1]], [(0, 1)], [0, (1,)],
                      [0, 1, []], [{}], [0, 1, {2}], [b"a"], [0, 1, int], [0, is_net]):
            self.assertIs(is_net("ab", thing), False, thing)
        self.assertIs(is_net("a", [False]), False)
        for thing in ((0, 1), {0: 1, 1: 2}, None, "ab", 2):
            self.assertIs(is_net("ab", thing), False, thing)
        self.assertIs(is_net("aa", [True]), False)

    def test_small_rows(self):
        for row in by_hand.rows_to("ab", 6):
            for marks in by_hand.all_marks(row):
                self.assertIs(is_net(row, marks), by_hand.net(row, marks))

    def test_all_places_of_long_rows(self):
        for row in by_hand.LONG_ROWS:
            self.assertIs(is_net(row, list(range(len(row)))), True)
            self.assertIs(is_net(row, []), False)


NO_NETS = (("ab", []), ("ab", [0]), ("ab", [1, 0]), ("ab", [0, 0, 1]), ("ab", [0, 1, 2]),
           ("ab", [-1, 0, 1]), ("ab", [0, 10 ** 59]), ("", [0]), ("", [-1]), ("abab", [0, 3]))


class Leaner(unittest.TestCase):
    """[2.3]"""

    def test_from_the_least_on(self):
        self.assertEqual(leaner("aaaa", [0, 1, 2, 3]), [3])
        self.assertEqual(leaner("aba", [0, 1, 2]), [1, 2])
        self.assertEqual(leaner("abab", [0, 1, 2, 3]), [2, 3])

    def test_a_lean_one_stays(self):
        self.assertEqual(leaner("abab", [1, 2]), [1, 2])
        self.assertEqual(leaner("abc", [0, 1, 2]), [0, 1, 2])
        self.assertEqual(leaner("", []), [])

    def test_all_nets_of_small_rows(self):
        for row in by_hand.rows_to("ab", 5) + by_hand.rows_to("abc", 4):
            for marks in by_hand.nets_of(row):
                kept = list(marks)
                for mark in marks:
                    kept.remove(mark)
                    if not by_hand.net(row, kept):
                        kept = sorted(kept + [mark])
                self.assertEqual(leaner(row, marks), kept)

    def test_no_net_is_refused(self):
        for row, marks in NO_NETS:
            by_hand.raised(self, NoNet, leaner, row, marks)

    def test_long_rows(self):
        for row in by_hand.LONG_ROWS:
            lean = leaner(row, list(range(len(row))))
            self.assertTrue(is_net(row, lean))
            for mark in lean:
                self.assertFalse(is_net(row, [other for other in lean if other != mark]))


class OwnWords(unittest.TestCase):
    """[2.3]"""

    def test_a_word_or_none_mark_by_mark(self):
        self.assertEqual(own_words("abc", [0, 1, 2]), ["a", "b", "c"])
        self.assertEqual(own_words("aaaa", [2]), ["a"])
        self.assertEqual(own_words("aaaa", [1, 2]), [None, None])
        self.assertEqual(own_words("aba", [0, 1, 2]), [None, "b", None])
        self.assertEqual(own_words("abab", [1, 2]), ["b", "a"])
        self.assertEqual(own_words("", []), [])

    def test_all_nets_of_small_rows(self):
        for row in by_hand.rows_to("ab", 5) + by_hand.rows_to("abc", 4):
            for marks in by_hand.nets_of(row):
                others = [[other for other in marks if other != mark] for mark in marks]
                want = [by_hand.lacking_of(row, less) for less in others]
                self.assertEqual(own_words(row, marks), want)

    def test_no_net_is_refused(self):
        for row, marks in NO_NETS:
            by_hand.raised(self, NoNet, own_words, row, marks)


class Told(unittest.TestCase):
    """[0.2]"""

    def test_what_is_handed_in_stays(self):
        marks = [0, 1, 2, 3]
        for call in (is_net, lacking, leaner, own_words):
            call("abab", marks)
            self.assertEqual(marks, [0, 1, 2, 3])
        over("abab", marks, "ab")
        self.assertEqual(marks, [0, 1, 2, 3])
        wrong = [1, 0, "a", [2]]
        is_net("abab", wrong)
        self.assertEqual(wrong, [1, 0, "a", [2]])

    def test_a_refused_list_stays(self):
        marks = [3, 1, 7]
        for call in (leaner, own_words):
            by_hand.raised(self, NoNet, call, "abab", marks)
            self.assertEqual(marks, [3, 1, 7])

    def test_a_told_list_is_the_askers_own(self):
        marks = [1, 2]
        told = leaner("abab", marks)
        self.assertIsNot(told, marks)
        told.append(3)
        self.assertEqual(marks, [1, 2])
        self.assertEqual(leaner("abab", marks), [1, 2])
        words = own_words("abab", marks)
        words.clear()
        self.assertEqual(own_words("abab", marks), ["b", "a"])

    def test_a_list_that_is_changed_later_is_asked_anew(self):
        marks = [1, 2]
        self.assertIs(is_net("abab", marks), True)
        marks.pop()
        self.assertIs(is_net("abab", marks), False)
        self.assertEqual(lacking("abab", marks), "a")


if __name__ == "__main__":
    unittest.main()
