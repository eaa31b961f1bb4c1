import unittest
from copy import deepcopy
from itertools import product

import by_hand
from likemarks.errors import NoLetter, NoNet, NoPlace, TooMany
from likemarks.made import imaged, joined, merged, mirrored, rounds
from likemarks.nets import is_net, leaner

FAR = 10 ** 59
SMALL = by_hand.rows_to("ab", 4) + ["abc", "aabc", "abcab"]
NETS = [(row, marks) for row in SMALL for marks in by_hand.nets_of(row)]
SAME = {letter: letter for letter in "abcdefghijklmnopqrstuvwxyz"}
# Lists of numbers that are no net of "aab".
NO_NETS = ([], [0], [2], [0, 1], [2, 0], [0, 0, 2], [0, 2, 3], [-1, 0, 2], [0, 2, FAR], [-FAR, 0, 2])


def long_nets():
    rows = list(by_hand.LONG_ROWS)
    return [(row, leaner(row, list(range(len(row))))) for row in rows]


class Joined(unittest.TestCase):
    """[12.1]"""

    def test_ordinary_rows(self):
        self.assertEqual(joined("ab", [0, 1], "c", [0]), ("abc", [0, 1, 2]))
        self.assertEqual(joined("aab", [0, 2], "aab", [0, 2]), ("aabaab", [0, 2, 3, 5]))
        self.assertEqual(joined("aaa", [0], "bb", [1]), ("aaabb", [0, 2, 4]))

    def test_the_last_place_may_be_a_mark_already(self):
        self.assertEqual(joined("a", [0], "a", [0]), ("aa", [0, 1]))
        self.assertEqual(joined("aa", [1], "b", [0]), ("aab", [1, 2]))
        self.assertEqual(joined("aa", [0, 1], "bbb", [1]), ("aabbb", [0, 1, 3]))

    def test_one_has_no_letters(self):
        self.assertEqual(joined("", [], "", []), ("", []))
        self.assertEqual(joined("aa", [0], "", []), ("aa", [0]))
        self.assertEqual(joined("", [], "aa", [0]), ("aa", [0]))
        self.assertEqual(joined("", [], "a" * 60, [7]), ("a" * 60, [7]))

    def test_all_small_ones(self):
        for (row, marks), (other, more) in product(NETS, repeat=2):
            told_row, told_marks = joined(row, marks, other, more)
            self.assertEqual(told_row, row + other)
            want = set(marks) | {len(row) + mark for mark in more}
            if row and other:
                want.add(len(row) - 1)
            self.assertEqual(told_marks, sorted(want))
            self.assertTrue(is_net(told_row, told_marks))

    def test_no_net_of_either(self):
        for wrong in NO_NETS:
            by_hand.raised(self, NoNet, joined, "aab", wrong, "a", [0])
            by_hand.raised(self, NoNet, joined, "a", [0], "aab", wrong)
            by_hand.raised(self, NoNet, joined, "", [], "aab", wrong)
            by_hand.raised(self, NoNet, joined, "aab", wrong, "", [])
        by_hand.raised(self, NoNet, joined, "", [0], "a", [0])
        by_hand.raised(self, NoNet, joined, "a", [0], "", [0])

    def test_too_many_letters_at_last(self):
        row = "ab" * 15
        self.assertEqual(joined(row, [0, 1], row, [0, 1]), ("ab" * 30, [0, 1, 29, 30, 31]))
        by_hand.raised(self, TooMany, joined, row, [0, 1], row + "a", [0, 1])
        by_hand.raised(self, TooMany, joined, "a" * 60, [0], "a", [0])
        by_hand.raised(self, TooMany, joined, "a", [0], "a" * 60, [0])
        by_hand.raised(self, NoNet, joined, "a" * 60, [0], "a", [])
        by_hand.raised(self, NoNet, joined, "a" * 60, [], "a", [0])


class Rounds(unittest.TestCase):
    """[12.1]"""

    def test_just_as_many(self):
        self.assertEqual(rounds("aab", [0, 2], 3), ("aab", [0, 2]))
        self.assertEqual(rounds("aaa", [0], 3), ("aaa", [0]))
        self.assertEqual(rounds("a" * 60, [5], 60), ("a" * 60, [5]))

    def test_more(self):
        self.assertEqual(rounds("aab", [0, 2], 4), ("aaba", [0, 2]))
        self.assertEqual(rounds("aaa", [0], 4), ("aaaa", [0, 2]))
        self.assertEqual(rounds("aab", [0, 2], 60), ("aab" * 20, [0, 2]))
        self.assertEqual(rounds("a", [0], 60), ("a" * 60, [0]))

    def test_all_small_ones(self):
        for row, marks in NETS:
            for many in (list(range(len(row), 15)) + [59, 60] if row else []):
                told_row, told_marks = rounds(row, marks, many)
                self.assertEqual(told_row, "".join(row[k % len(row)] for k in range(many)))
                want = set(marks) | ({len(row) - 1} if many > len(row) else set())
                self.assertEqual(told_marks, sorted(want))
                self.assertTrue(is_net(told_row, told_marks))

    def test_no_net_first(self):
        for wrong in NO_NETS:
            for many in (3, 5, 2, -1, 61, FAR, -FAR):
                by_hand.raised(self, NoNet, rounds, "aab", wrong, many)
        for many in (-1, 0, 5, 61):
            by_hand.raised(self, NoNet, rounds, "", [0], many)

    def test_then_no_letter(self):
        for many in (-FAR, -1, 0, 1, 60, 61, FAR):
            by_hand.raised(self, NoLetter, rounds, "", [], many)

    def test_then_no_place(self):
        for many in (2, 1, 0, -1, -3, -FAR):
            by_hand.raised(self, NoPlace, rounds, "aab", [0, 2], many)
        by_hand.raised(self, NoPlace, rounds, "a" * 60, [0], 59)

    def test_at_last_too_many(self):
        for many in (61, 62, 600, FAR):
            by_hand.raised(self, TooMany, rounds, "aab", [0, 2], many)
            by_hand.raised(self, TooMany, rounds, "a" * 60, [0], many)


class Mirrored(unittest.TestCase):
    """[12.1]"""

    def test_ordinary_rows(self):
        self.assertEqual(mirrored("", []), ("", []))
        self.assertEqual(mirrored("a", [0]), ("a", [0]))
        self.assertEqual(mirrored("aab", [0, 2]), ("baa", [0, 2]))
        self.assertEqual(mirrored("banana", [0, 1, 2]), ("ananab", [3, 4, 5]))

    def test_all_small_ones_and_long_ones(self):
        for row, marks in NETS + long_nets():
            told_row, told_marks = mirrored(row, marks)
            self.assertEqual(told_row, "".join(reversed(row)))
            self.assertEqual(told_marks, sorted(len(row) - 1 - mark for mark in marks))
            self.assertTrue(is_net(told_row, told_marks))

    def test_twice_it_is_as_it_was(self):
        for row, marks in NETS + long_nets():
            self.assertEqual(mirrored(*mirrored(row, marks)), (row, marks))

    def test_no_net(self):
        for wrong in NO_NETS:
            by_hand.raised(self, NoNet, mirrored, "aab", wrong)
        by_hand.raised(self, NoNet, mirrored, "", [0])


class Merged(unittest.TestCase):
    """[12.1]"""

    def test_ordinary_rows(self):
        self.assertEqual(merged("aab", [0, 2], {"a": "b", "b": "a"}), ("bba", [0, 2]))
        self.assertEqual(merged("aab", [0, 2], {"a": "x", "b": "x"}), ("xxx", [0, 2]))
        self.assertEqual(merged("aab", [0, 2], {"a": "b", "b": "c", "c": "d", "z": "a"}), ("bbc", [0, 2]))
        self.assertEqual(merged("", [], {}), ("", []))
        self.assertEqual(merged("", [], {"a": "b"}), ("", []))
        self.assertEqual(merged("a" * 60, [3], {"a": "z"}), ("z" * 60, [3]))

    def test_all_small_ones(self):
        tables = [dict(zip("abc", signs)) for signs in product("abz", repeat=3)]
        for row, marks in NETS:
            for table in tables:
                told_row, told_marks = merged(row, marks, table)
                self.assertEqual(told_row, "".join(table[letter] for letter in row))
                self.assertEqual(told_marks, marks)
                self.assertTrue(is_net(told_row, told_marks))

    def test_long_ones(self):
        half = {letter: "ab"[number % 2] for number, letter in enumerate(SAME)}
        for row, marks in long_nets():
            self.assertEqual(merged(row, marks, SAME), (row, marks))
            self.assertTrue(is_net(*merged(row, marks, half)))

    def test_no_net_first(self):
        for wrong in NO_NETS:
            by_hand.raised(self, NoNet, merged, "aab", wrong, SAME)
            by_hand.raised(self, NoNet, merged, "aab", wrong, {})

    def test_then_no_letter(self):
        for table in ({}, {"a": "a"}, {"b": "b"}, {"a": "a", "c": "b"}, {"": "a", "a": "a"}):
            by_hand.raised(self, NoLetter, merged, "aab", [0, 2], table)


class Imaged(unittest.TestCase):
    """[12.1]"""

    def test_ordinary_rows(self):
        self.assertEqual(imaged("", [], {}), ("", []))
        self.assertEqual(imaged("a", [0], {"a": "xyzz"}), ("xyzz", [0, 1, 2, 3]))
        # The first places are 0 and 2; of the mark 1 come the places 3 and 5.
        self.assertEqual(imaged("aab", [1, 2], {"a": "xyz", "b": "yx"}), ("xyzxyzyx", [0, 1, 2, 3, 5, 6, 7]))
        self.assertEqual(imaged("aaaa", [3], {"a": "abba"}), ("abba" * 4, [0, 1, 2, 3, 12, 15]))
        self.assertEqual(imaged("aab", [0, 2], {"a": "b", "b": "a", "c": "dddd"}), ("bba", [0, 2]))

    def test_like_texts_and_marks_that_fall_together(self):
        self.assertEqual(imaged("aab", [0, 2], {"a": "xx", "b": "xx"}), ("xxxxxx", [0, 1, 4, 5]))
        self.assertEqual(imaged("aab", [0, 1, 2], {"a": "x", "b": "x"}), ("xxx", [0, 1, 2]))

    def test_all_small_ones(self):
        tables = [dict(zip("abc", texts)) for texts in product(("a", "ab", "ba", "aab", "abba", "zz"), repeat=3)]
        for row, marks in NETS:
            for table in tables[::1 if len(row) < 4 else 7]:
                images = [table[letter] for letter in row]
                at = [sum(map(len, images[:place])) for place in range(len(row))]
                want = {at[mark] for mark in marks} | {at[mark] + len(images[mark]) - 1 for mark in marks}
                for letter in set(row):
                    first = row.index(letter)
                    want |= set(range(at[first], at[first] + len(table[letter])))
                told_row, told_marks = imaged(row, marks, table)
                self.assertEqual((told_row, told_marks), ("".join(images), sorted(want)))
                self.assertTrue(is_net(told_row, told_marks), (row, marks, table))

    def test_no_net_first(self):
        long = {letter: "abcd" for letter in SAME}
        for wrong in NO_NETS:
            for table in (SAME, {}, long):
                by_hand.raised(self, NoNet, imaged, "aab", wrong, table)
        by_hand.raised(self, NoNet, imaged, "a" * 60, [], long)

    def test_then_no_letter(self):
        for table in ({}, {"a": "a"}, {"b": "b"}, {"a": "ab", "c": "b"}):
            by_hand.raised(self, NoLetter, imaged, "aab", [0, 2], table)
        by_hand.raised(self, NoLetter, imaged, "a" * 59 + "b", [0, 59], {"a": "abcd"})
        by_hand.raised(self, NoLetter, imaged, "b" + "a" * 59, [0, 1], {"a": "abcd"})

    def test_at_last_too_many(self):
        told_row, told_marks = imaged("a" * 15, [0], {"a": "abcd"})
        self.assertEqual((told_row, told_marks), ("abcd" * 15, [0, 1, 2, 3]))
        told_row, _ = imaged("a" * 14 + "b", [0, 14], {"a": "abcd", "b": "abcd"})
        self.assertEqual(len(told_row), 60)
        by_hand.raised(self, TooMany, imaged, "a" * 16, [0], {"a": "abcd"})
        by_hand.raised(self, TooMany, imaged, "a" * 59 + "b", [0, 59], {"a": "a", "b": "ab"})
        by_hand.raised(self, TooMany, imaged, "a" * 60, [0], {"a": "abcd"})


class LongerRows(unittest.TestCase):
    """[12.1]: all refuse more than 60 letters at last"""

    def test_rows_handed_in(self):
        for call, more in ((mirrored, ()), (merged, (SAME,)), (imaged, (SAME,)), (rounds, (61,)), (joined, ("", []))):
            by_hand.raised(self, NoNet, call, "a" * 61, [], *more)
            by_hand.raised(self, TooMany, call, "a" * 61, [0], *more)
            told_row, _ = call("a" * 60, [0], *(more if call is not rounds else (60,)))
            self.assertEqual(told_row, "a" * 60)
        by_hand.raised(self, NoLetter, merged, "a" * 61, [0], {})


class Told(unittest.TestCase):
    """[0.2]"""

    def test_what_is_handed_in_stays(self):
        marks, more, table = [0, 2], [1, 2], {"a": "ab", "b": "c", "z": "zz"}
        for call, handed in ((joined, ("aab", marks, "aab", more)), (rounds, ("aab", marks, 7)),
                             (mirrored, ("aab", marks)), (merged, ("aab", marks, table)),
                             (imaged, ("aab", marks, table)), (joined, ("aab", marks, "", []))):
            kept = deepcopy(handed)
            told = call(*handed)
            self.assertEqual(handed, kept)
            told[1].append(77)
            self.assertEqual(handed, kept)
            self.assertNotIn(77, call(*handed)[1])
        by_hand.raised(self, NoPlace, rounds, "aab", marks, 2)
        by_hand.raised(self, NoLetter, imaged, "aab", marks, {})
        self.assertEqual((marks, more, table), ([0, 2], [1, 2], {"a": "ab", "b": "c", "z": "zz"}))

    def test_no_two_told_lists_are_one(self):
        none, marks = [], [0, 2]
        told = [joined("aab", marks, "", none), joined("", none, "aab", marks), joined("", none, "", none),
                rounds("aab", marks, 3), rounds("aab", marks, 8), mirrored("aab", marks), mirrored("", none),
                merged("aab", marks, SAME), merged("aab", marks, SAME), imaged("aab", marks, SAME),
                imaged("", none, {}), joined("aab", marks, "aab", marks)]
        by_hand.all_one_each(self, none, marks, *told)


if __name__ == "__main__":
    unittest.main()
