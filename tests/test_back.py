import unittest

import by_hand
from likemarks.back import telling_of
from likemarks.errors import NoNet
from likemarks.nets import is_net, leaner
from likemarks.tellings import told_row


def fits(row, marks, place, many):
    """The document's three bounds of a like piece, one by one."""
    aheads = [mark for mark in marks if mark < place]
    behinds = [mark for mark in marks if mark > place]
    gap_end = behinds[0] if behinds else len(row)
    if aheads and many > place - aheads[-1]:
        return False
    if behinds and many > behinds[0] - (place + many - 1):
        return False
    return many <= gap_end - place


def by_the_words(row, marks):
    telling, place = [], 0
    while place < len(row):
        many = 1
        if place in marks:
            telling.append(("own", row[place]))
        else:
            many = max(k for k in range(1, len(row) + 1) if fits(row, marks, place, k))
            word = row[place:place + many]
            telling.append(("like", by_hand.over_of(row, marks, word), many))
        place += many
    return telling


class TellingOf(unittest.TestCase):
    """[4.3]"""

    def test_marks_are_own_pieces(self):
        self.assertEqual(telling_of("", []), [])
        self.assertEqual(telling_of("a", [0]), [("own", "a")])
        self.assertEqual(telling_of("abc", [0, 1, 2]), [("own", "a"), ("own", "b"), ("own", "c")])

    def test_ahead_of_the_first_mark(self):
        # The pieces halve what is left, as each keeps its length away from the mark behind.
        self.assertEqual(telling_of("aaaaaaaa", [7]),
                         [("like", 4, 4), ("like", 6, 2), ("like", 7, 1), ("own", "a")])

    def test_behind_the_last_mark(self):
        self.assertEqual(telling_of("aaaaaaaa", [0]),
                         [("own", "a"), ("like", 0, 1), ("like", 0, 2), ("like", 0, 4)])
        self.assertEqual(telling_of("aaaaaa", [0]),
                         [("own", "a"), ("like", 0, 1), ("like", 0, 2), ("like", 0, 2)])

    def test_between_two_marks(self):
        self.assertEqual(telling_of("a" * 9, [0, 8]),
                         [("own", "a"), ("like", 0, 1), ("like", 0, 2), ("like", 0, 2),
                          ("like", 0, 1), ("like", 0, 1), ("own", "a")])
        self.assertEqual(telling_of("abab", [1, 2]),
                         [("like", 2, 1), ("own", "b"), ("own", "a"), ("like", 1, 1)])

    def test_all_nets_of_small_rows(self):
        for row in by_hand.rows_to("ab", 7) + by_hand.rows_to("abc", 5):
            for marks in by_hand.all_marks(row):
                if is_net(row, marks):
                    self.assertEqual(telling_of(row, marks), by_the_words(row, marks))

    def test_it_tells_the_row_with_few_pieces(self):
        for row in by_hand.rows_to("ab", 8):
            for marks in by_hand.all_marks(row):
                if is_net(row, marks):
                    self.check(row, marks)

    def test_long_rows(self):
        for row in by_hand.LONG_ROWS:
            every = list(range(len(row)))
            lean = leaner(row, every)
            for marks in (every, lean, sorted(set(lean + every[::7])), sorted(set(lean + every[:9]))):
                self.check(row, marks)
                self.assertEqual(telling_of(row, marks), by_the_words(row, marks))
        for place in range(60):
            self.check("a" * 60, [place])
            self.check("a" * 60, sorted({place, 30, 59}))

    def check(self, row, marks):
        telling = telling_of(row, marks)
        self.assertEqual(told_row(telling), row)
        figures = len(bin(len(row))) - 2
        self.assertLessEqual(len(telling), len(marks) * (1 + 2 * figures))

    def test_no_net_is_refused(self):
        for row, marks in (("ab", []), ("ab", [0]), ("ab", [1, 0]), ("ab", [0, 0, 1]),
                           ("ab", [0, 1, 2]), ("ab", [-1, 0, 1]), ("ab", [0, 10 ** 59]), ("", [0]),
                           ("", [-1]), ("abab", [0, 3]), ("a" * 60, []), ("a" * 60, [60])):
            by_hand.raised(self, NoNet, telling_of, row, marks)


class Told(unittest.TestCase):
    """[0.2]"""

    def test_what_is_handed_in_stays(self):
        marks = [1, 2]
        telling_of("abab", marks)
        self.assertEqual(marks, [1, 2])
        wrong = [3, 1]
        by_hand.raised(self, NoNet, telling_of, "abab", wrong)
        self.assertEqual(wrong, [3, 1])

    def test_a_told_list_is_the_askers_own(self):
        kept = list(telling_of("abab", [1, 2]))
        telling_of("abab", [1, 2]).clear()
        self.assertEqual(telling_of("abab", [1, 2]), kept)


if __name__ == "__main__":
    unittest.main()
