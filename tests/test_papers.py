import unittest
from unittest.mock import ANY

import by_hand
from likemarks.heads import cores, heads
from likemarks.nets import is_net
from likemarks.papers import paper, paper_right

# "nan" stands once, "na" and "an" twice.
RIGHT = [("a", 1), ("b", 0), ("n", 2), ("nan", 2)]
MARKS = [0, 1, 2]


class Paper(unittest.TestCase):
    """[3.4]"""

    def test_the_least_places(self):
        self.assertEqual(paper("banana", MARKS), RIGHT)
        self.assertEqual(paper("banana", [0, 3, 4]),
                         [("a", 3), ("b", 0), ("n", 4), ("nan", 2)])
        self.assertEqual(paper("aaa", [1]), [("a", 1), ("aa", 0), ("aaa", 0)])

    def test_none_where_a_core_stands_over_no_mark(self):
        self.assertIsNone(paper("banana", [0, 1]))
        self.assertIsNone(paper("banana", [1, 2]))
        self.assertIsNone(paper("banana", []))

    def test_the_row_without_letters(self):
        self.assertEqual(paper("", []), [])
        self.assertIs(paper_right("", [], []), True)
        self.assertIs(paper_right("", [], [("a", 0)]), False)
        self.assertIs(paper_right("", [], [("", 0)]), False)

    def test_there_is_one_just_of_a_net(self):
        for row in by_hand.rows_to("ab", 6) + by_hand.rows_to("abc", 4):
            for marks in by_hand.all_marks(row):
                told = paper(row, marks)
                overs = [(core, by_hand.over_of(row, marks, core)) for core in cores(row)]
                if by_hand.net(row, marks):
                    self.assertEqual(told, overs)
                    self.assertIs(paper_right(row, marks, told), True)
                else:
                    self.assertIsNone(told)
                    self.assertIn(None, [place for _, place in overs])

    def test_a_net_just_where_each_head_stands_over_a_mark(self):
        for row in by_hand.rows_to("ab", 6):
            for marks in by_hand.all_marks(row):
                lacks = [w for w in heads(row) if by_hand.over_of(row, marks, w) is None]
                self.assertEqual(is_net(row, marks), not lacks)


class PaperRight(unittest.TestCase):
    """[3.4]"""

    def told(self, thing):
        return paper_right("banana", MARKS, thing)

    def with_entry(self, k, entry):
        """What is told of the right one with another thing in one place."""
        return self.told(RIGHT[:k] + [entry] + RIGHT[k + 1:])

    def test_any_places_over_marks_are_right(self):
        self.assertIs(self.told(RIGHT), True)
        for a, n in ((1, 2), (3, 2)):
            thing = [("a", a), ("b", 0), ("n", n), ("nan", 2)]
            self.assertIs(paper_right("banana", [0, 1, 2, 3], thing), True)
        self.assertIs(paper_right("aaa", [1], [("a", 1), ("aa", 1), ("aaa", 0)]), True)
        self.assertIs(paper_right("aaa", [1], [("a", 1), ("aa", 0), ("aaa", 0)]), True)

    def test_a_tuple_left_out_twice_or_more(self):
        for k in range(4):
            self.assertIs(self.told(RIGHT[:k] + RIGHT[k + 1:]), False)
            self.assertIs(self.told(RIGHT[:k + 1] + RIGHT[k:]), False)
        self.assertIs(self.told([]), False)
        self.assertIs(self.told(RIGHT + RIGHT), False)
        self.assertIs(self.told(RIGHT + [("z", 0)]), False)
        self.assertIs(self.told([("a", 1), ("an", 1), ("b", 0), ("n", 2), ("nan", 2)]), False)
        self.assertIs(paper_right("banana", [0, 1, 2, 3], [("a", 1), ("a", 3)] + RIGHT[1:]), False)

    def test_exchanged(self):
        for k in range(3):
            self.assertIs(self.told(RIGHT[:k] + [RIGHT[k + 1], RIGHT[k]] + RIGHT[k + 2:]), False)
        self.assertIs(self.told(RIGHT[::-1]), False)
        self.assertIs(self.told([("a", 0), ("b", 1)] + RIGHT[2:]), False)
        self.assertIs(self.told([(place, core) for core, place in RIGHT]), False)

    def test_a_place_over_no_mark_or_where_it_does_not_stand(self):
        for place in (-5, -1, 0, 2, 3, 4, 5, 6, 10 ** 59, -10 ** 59):
            self.assertIs(self.with_entry(0, ("a", place)), False, place)
        self.assertIs(self.with_entry(0, ("a", 1)), True)
        self.assertIs(self.with_entry(1, ("b", -6)), False)
        self.assertIs(self.with_entry(2, ("n", 4)), False)
        self.assertIs(self.with_entry(3, ("nan", 1)), False)
        self.assertIs(paper_right("banana", [0, 4, 5], [("a", 5), ("b", 0), ("n", 4), ("nan", 2)]), True)
        self.assertIs(paper_right("banana", [0, 4, 5], [("a", 5), ("b", 0), ("n", 2), ("nan", 2)]), False)

    def test_a_truth_in_a_numbers_place(self):
        self.assertIs(self.with_entry(0, ("a", True)), False)
        self.assertIs(self.with_entry(1, ("b", False)), False)

    def test_tuples_of_other_lengths(self):
        for entry in ((), ("a",), ("a", 1, 1), ("a", 1, None), (("a", 1),)):
            self.assertIs(self.with_entry(0, entry), False, entry)

    def test_things_of_other_kinds(self):
        for entry in (None, True, 1, "a", (ANY, 1), ("a", ANY), ANY, "a1", ["a", 1], {"a": 1}, {"a", 1}, b"a1", paper,
                      ("a", "1"), ("a", None), ("a", [1]), ("a", (1,)), (None, 1), (b"a", 1),
                      (["a"], 1), (0, 1), (True, 1), ({}, 1), ("a", {1}), ("A", 1), ("", 1)):
            self.assertIs(self.with_entry(0, entry), False, entry)
            self.assertIs(self.told([entry]), False, entry)
        for thing in (tuple(RIGHT), dict(RIGHT), None, "abn", 3):
            self.assertIs(self.told(thing), False, thing)

    def test_of_marks_that_are_no_net_none_is(self):
        for marks in ([], [0], [0, 1], [1, 2], [3, 4, 5]):
            self.assertIs(paper_right("banana", marks, RIGHT), False)


class Told(unittest.TestCase):
    """[0.2]"""

    def test_what_is_handed_in_stays(self):
        marks, thing = [0, 1, 2], list(RIGHT)
        paper("banana", marks)
        paper_right("banana", marks, thing)
        self.assertEqual((marks, thing), ([0, 1, 2], RIGHT))
        wrong = [("n", 2), ["a", 1], None]
        paper_right("banana", marks, wrong)
        self.assertEqual(wrong, [("n", 2), ["a", 1], None])

    def test_a_told_list_is_the_askers_own(self):
        paper("banana", MARKS).pop()
        self.assertEqual(paper("banana", MARKS), RIGHT)


if __name__ == "__main__":
    unittest.main()
