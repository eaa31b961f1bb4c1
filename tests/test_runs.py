import unittest

import by_hand
from likemarks.errors import NoStand
from likemarks.runs import last_place, run_marks

SMALL = by_hand.rows_to("ab", 8) + by_hand.rows_to("abc", 5)


def marks_by_the_words(row):
    """Tail by tail in their order, each with the sign ahead of it."""
    order = sorted((row[begin:], begin, ("." + row)[begin]) for begin in range(len(row) + 1))
    marks = []
    for k, (_, begin, sign) in enumerate(order):
        if begin >= 1 and (k == len(row) or order[k + 1][2] != sign):
            marks.append(begin - 1)
    return sorted(marks)


class RunMarks(unittest.TestCase):
    """[7.3]"""

    def test_ordinary_rows(self):
        # The begins 6, 5, 3, 1, 0, 4, 2 have the letters a, n, n, b, none, a, a ahead.
        self.assertEqual(run_marks("banana"), [0, 1, 2, 5])
        self.assertEqual(run_marks("abab"), [0, 1])
        self.assertEqual(run_marks("abc"), [0, 1, 2])
        self.assertEqual(run_marks("cba"), [0, 1, 2])

    def test_rows_of_no_and_of_one_letter(self):
        self.assertEqual(run_marks(""), [])
        self.assertEqual(run_marks("a"), [0])
        self.assertEqual(run_marks("z"), [0])

    def test_like_letters(self):
        for many in (2, 3, 59, 60):
            self.assertEqual(run_marks("a" * many), [0])

    def test_tail_by_tail(self):
        for row in SMALL + list(by_hand.LONG_ROWS):
            self.assertEqual(run_marks(row), marks_by_the_words(row), row)

    def test_rising_and_a_net(self):
        for row in SMALL + list(by_hand.LONG_ROWS):
            marks = run_marks(row)
            self.assertEqual(marks, sorted(set(marks)))
            self.assertTrue(by_hand.net(row, marks), row)


class LastPlace(unittest.TestCase):
    """[7.3]"""

    def test_ordinary_words(self):
        self.assertEqual(last_place("banana", "a"), 1)
        self.assertEqual(last_place("banana", "an"), 1)
        self.assertEqual(last_place("banana", "na"), 2)
        self.assertEqual(last_place("banana", "banana"), 0)
        self.assertEqual(last_place("abaab", "ab"), 0)
        self.assertEqual(last_place("abab", "b"), 1)
        self.assertEqual(last_place("ababb", "b"), 3)

    def test_like_letters(self):
        for many in range(1, 61):
            self.assertEqual(last_place("a" * 60, "a" * many), 0)

    def test_the_word_stands_there_over_one_of_the_marks(self):
        for row in SMALL + list(by_hand.LONG_ROWS):
            marks = marks_by_the_words(row)
            for word in by_hand.standing(row):
                place = last_place(row, word)
                places = [i for i in range(len(row)) if row.startswith(word, i)]
                self.assertIn(place, places)
                self.assertTrue(all(row[other:] <= row[place:] for other in places))
                self.assertTrue(any(place <= mark < place + len(word) for mark in marks), (row, word))

    def test_a_word_that_stands_nowhere_is_refused(self):
        for row, word in (("banana", "c"), ("banana", "nb"), ("banana", "aa"), ("banana", "ab"), ("", "a"),
                          ("ab" * 30, "aa"), ("a" * 60, "b")):
            by_hand.raised(self, NoStand, last_place, row, word)

    def test_a_word_longer_than_the_row_is_refused(self):
        for row, word in (("banana", "bananas"), ("banana", "bananabanana"), ("a", "aa"), ("aaa", "aaaa"),
                          ("aaa", "a" * 60), ("", "a" * 60), ("a" * 59, "a" * 60)):
            by_hand.raised(self, NoStand, last_place, row, word)


class Told(unittest.TestCase):
    """[0.2]"""

    def test_a_told_list_is_the_askers_own(self):
        run_marks("banana").clear()
        run_marks("banana")[0] = 7
        self.assertEqual(run_marks("banana"), [0, 1, 2, 5])
        self.assertIsNot(run_marks("banana"), run_marks("banana"))
        self.assertEqual(last_place("banana", "na"), 2)


if __name__ == "__main__":
    unittest.main()
