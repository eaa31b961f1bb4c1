import unittest

import by_hand
from likemarks.cuttings import first_cutting
from likemarks.errors import NoLetter, TooMany
from likemarks.keeper import Keeper
from likemarks.nets import is_net

NO_LETTERS = ("", "ab", "aa", "A", "Z", " ", "1", ".", "`", "{", "\n", "a\n", "abcdefghijklmnopqrstuvwxyz", 0, 1, 97,
              -1, 10 ** 59, None, True, False, b"a", [], ["a"], ("a",), (), {}, {"a": "a"}, {"a"}, object(), Keeper)


def filled(row):
    keeper = Keeper()
    for letter in row:
        keeper.put(letter)
    return keeper


def state(keeper):
    return (keeper.row(), keeper.marks(), keeper.begin())


def expected(row):
    """Row, marks and begin, the marks by the document's words."""
    marks, begin = [], 0
    for end in range(len(row)):
        if row.find(row[begin:end + 1]) == begin:
            marks.append(end)
            begin = end + 1
    return (row, marks, begin)


class Puts(unittest.TestCase):
    """[14.1]"""

    def test_at_first(self):
        self.assertEqual(state(Keeper()), ("", [], 0))

    def test_ordinary_letters(self):
        keeper = Keeper()
        wanted = (("b", [0], 1), ("ba", [0, 1], 2), ("ban", [0, 1, 2], 3), ("bana", [0, 1, 2], 3),
                  ("banan", [0, 1, 2], 3), ("banana", [0, 1, 2], 3), ("bananab", [0, 1, 2, 6], 7))
        for letter, want in zip("bananab", wanted):
            self.assertIs(keeper.put(letter), None)
            self.assertEqual(state(keeper), want)

    def test_all_letters(self):
        for letter in "abcdefghijklmnopqrstuvwxyz":
            self.assertEqual(state(filled(letter)), (letter, [0], 1))

    def test_to_sixty_and_down_to_none(self):
        for row in by_hand.LONG_ROWS:
            keeper = Keeper()
            for many, letter in enumerate(row):
                keeper.put(letter)
                self.assertEqual(state(keeper), expected(row[:many + 1]))
                self.assertEqual(keeper.marks(), first_cutting(row[:many + 1]))
            for many in reversed(range(len(row))):
                self.assertEqual(keeper.take(), row[many])
                self.assertEqual(state(keeper), expected(row[:many]))
            by_hand.raised(self, NoLetter, keeper.take)

    def test_put_and_taken_by_turns(self):
        keeper, row = Keeper(), ""
        deeds = "bba-ab--ab-aabb----aba-bababbab---------abbabaabbaababbaabbabaab" * 3
        for deed in deeds:
            if deed != "-" and len(row) < 60:
                keeper.put(deed)
                row += deed
            elif row:
                self.assertEqual(keeper.take(), row[-1])
                row = row[:-1]
            self.assertEqual(state(keeper), expected(row))
        self.assertEqual(len(row), 60)

    def test_another_letter_in_place_of_the_last(self):
        for row in by_hand.rows_to("ab", 7)[1:]:
            keeper = filled(row)
            for letter in "abc":
                keeper.take()
                keeper.put(letter)
                self.assertEqual(state(keeper), expected(row[:-1] + letter))

    def test_small_rows(self):
        for row in by_hand.rows_to("ab", 8) + by_hand.rows_to("abc", 5):
            keeper = filled(row)
            self.assertEqual(state(keeper), expected(row))
            self.assertTrue(is_net(row, keeper.marks()))


class Over(unittest.TestCase):
    """[14.1]"""

    def test_ordinary_words(self):
        keeper = filled("banana")
        self.assertEqual([keeper.over(word) for word in ("b", "a", "n", "an", "na", "ana", "nana", "banana")],
                         [0, 1, 2, 1, 2, 1, 2, 0])
        self.assertEqual(filled("aab").over("a"), 0)
        self.assertEqual(filled("aab").over("b"), 2)

    def test_words_that_stand_nowhere(self):
        keeper = filled("banana")
        for word in ("c", "bb", "nn", "ab", "bananab", "a" * 60, "banana" * 10):
            self.assertIs(keeper.over(word), None)
        for word in ("a", "z", "ab" * 30):
            self.assertIs(Keeper().over(word), None)

    def test_letters_taken_off_stand_no_more(self):
        keeper = filled("banan")
        keeper.take()
        self.assertIs(keeper.over("anan"), None)
        self.assertEqual(keeper.over("an"), 1)
        keeper.take()
        self.assertEqual((keeper.over("an"), keeper.over("n")), (1, 2))
        keeper.take()
        self.assertEqual((keeper.over("an"), keeper.over("n"), keeper.over("a")), (None, None, 1))

    def test_small_rows(self):
        words = by_hand.rows_to("ab", 5)[1:] + ["c", "ca", "abc", "bac", "cc"]
        for row in by_hand.rows_to("ab", 6) + by_hand.rows_to("abc", 4):
            keeper = filled(row)
            for word in words:
                want = by_hand.over_of(row, keeper.marks(), word)
                self.assertEqual(keeper.over(word), want)
                self.assertEqual(want is None, word not in row)


class Refusals(unittest.TestCase):
    """[14.1]"""

    def test_what_is_no_letter(self):
        for row in ("", "a", "banana", "ab" * 30):
            keeper = filled(row)
            for thing in NO_LETTERS:
                # Ahead of TooMany, too.
                by_hand.raised(self, NoLetter, keeper.put, thing)
                self.assertEqual(state(keeper), expected(row))

    def test_too_many(self):
        keeper = filled("ab" * 30)
        for letter in "abz":
            by_hand.raised(self, TooMany, keeper.put, letter)
            self.assertEqual(state(keeper), expected("ab" * 30))
        self.assertEqual(keeper.take(), "b")
        keeper.put("z")
        self.assertEqual(state(keeper), expected("ab" * 29 + "az"))
        by_hand.raised(self, TooMany, keeper.put, "a")

    def test_none_to_take(self):
        keeper = Keeper()
        by_hand.raised(self, NoLetter, keeper.take)
        self.assertEqual(state(keeper), ("", [], 0))
        keeper.put("a")
        self.assertEqual(keeper.take(), "a")
        by_hand.raised(self, NoLetter, keeper.take)
        keeper.put("b")
        self.assertEqual(state(keeper), ("b", [0], 1))


class Told(unittest.TestCase):
    """[0.2]"""

    def test_two_keepers_do_not_know_of_each_other(self):
        one, other = filled("aab"), Keeper()
        self.assertEqual(state(other), ("", [], 0))
        other.put("z")
        self.assertEqual((state(one), state(other)), (expected("aab"), expected("z")))
        one.take()
        one.take()
        self.assertEqual((state(one), state(other)), (expected("a"), expected("z")))
        self.assertIs(one.over("z"), None)

    def test_what_is_told_is_the_askers_own(self):
        keeper = filled("banana")
        told = keeper.marks()
        told.append(7)
        told[0] = 9
        self.assertEqual(state(keeper), expected("banana"))
        kept = keeper.marks()
        keeper.put("b")
        keeper.take()
        keeper.take()
        keeper.take()
        keeper.take()
        keeper.take()
        self.assertEqual(kept, [0, 1, 2])
        self.assertIsNot(keeper.marks(), keeper.marks())
        self.assertIsNot(Keeper().marks(), Keeper().marks())

    def test_each_method_stands_in_the_class_itself(self):
        for name in ("put", "take", "row", "marks", "begin", "over"):
            self.assertIn(name, vars(Keeper))


if __name__ == "__main__":
    unittest.main()
