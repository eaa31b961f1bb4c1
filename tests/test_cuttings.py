import unittest

import by_hand
from likemarks.cuttings import are_new, first_cutting, is_cutting, new_stretches

ODD_THINGS = (None, True, False, "0", "", "a", b"a", [], [0], [[0]], (), (0,), (0, 1), {}, {0}, object(),
              is_cutting)


def earlier(row, begin, behind):
    """Whether the word of a stretch stands at a place less than its begin."""
    return any(place < begin for place in by_hand.places_of(row, row[begin:behind]))


def cutting(row, ends):
    """Whether all between the ends, which are rising places of the row, stands earlier."""
    begins = [0] + [end + 1 for end in ends]
    gaps = zip(begins, ends + [len(row)])
    return all(begin == behind or earlier(row, begin, behind) for begin, behind in gaps)


def first_by_the_words(row):
    """The first cutting, end by end: from each begin all places are tried from the first one on."""
    ends, begin = [], 0
    while True:
        new = [end for end in range(begin, len(row)) if not earlier(row, begin, end + 1)]
        if not new:
            return ends
        ends.append(new[0])
        begin = new[0] + 1


class IsCutting(unittest.TestCase):
    """[5.1]"""

    def test_ends_that_leave_earlier_stretches(self):
        # Behind the ends stand none, none, "ab" and "abc".
        self.assertIs(is_cutting("ababcabc", [0, 1, 4]), True)
        self.assertIs(is_cutting("ababcabc", [0, 1, 4, 7]), True)
        self.assertIs(is_cutting("ababcabc", [0, 1, 2, 3, 4, 5, 6, 7]), True)
        self.assertIs(is_cutting("abcb", [0, 1, 2]), True)

    def test_a_stretch_may_reach_into_itself(self):
        self.assertIs(is_cutting("aaaaaa", [0]), True)
        self.assertIs(is_cutting("aaaaaa", [0, 5]), True)
        self.assertIs(is_cutting("abababab", [0, 1]), True)
        self.assertIs(is_cutting("abababab", [0, 1, 7]), True)

    def test_to_stand_later_is_not_enough(self):
        self.assertIs(is_cutting("abab", [2, 3]), False)
        self.assertIs(is_cutting("aaa", [2]), False)
        self.assertIs(is_cutting("aaa", [1]), False)
        self.assertIs(is_cutting("ab", [1]), False)

    def test_without_ends(self):
        self.assertIs(is_cutting("", []), True)
        for row in ("a", "ab", "aa", "a" * 60):
            self.assertIs(is_cutting(row, []), False, row)

    def test_the_row_without_letters(self):
        for thing in ([0], [-1], [1], [0, 1], [None], [""], [[]], [()], [False]):
            self.assertIs(is_cutting("", thing), False, thing)

    def test_an_end_left_out(self):
        ends = [0, 1, 4]
        for end in ends:
            left = [other for other in ends if other != end]
            self.assertIs(is_cutting("ababcabc", left), False, left)

    def test_told_twice_or_not_rising(self):
        for thing in ([0, 0, 1], [0, 1, 1], [1, 0], [0, 1, 0], [1, 0, 1], [1, 1, 0]):
            self.assertIs(is_cutting("abab", thing), False, thing)
        self.assertIs(is_cutting("abab", [0, 1]), True)
        self.assertIs(is_cutting("abab", [0, 1, 3, 2]), False)

    def test_beyond_the_row(self):
        for thing in ([-1, 0, 1], [0, 1, 4], [0, 1, 5], [0, 1, 10 ** 59], [-10 ** 59, 0, 1], [-4, 0, 1]):
            self.assertIs(is_cutting("abab", thing), False, thing)

    def test_things_of_other_kinds_within(self):
        for thing in ODD_THINGS:
            for k in range(3):
                self.assertIs(is_cutting("abab", [0, 1][:k] + [thing] + [0, 1][k:]), False, thing)
        self.assertIs(is_cutting("abab", [False, True]), False)
        self.assertIs(is_cutting("abab", [0, True]), False)
        self.assertIs(is_cutting("abab", [False, 1]), False)
        self.assertIs(is_cutting("a", [False]), False)
        self.assertIs(is_cutting("abab", ["0", "1"]), False)
        self.assertIs(is_cutting("abab", [[0, 1]]), False)
        self.assertIs(is_cutting("abab", [(0, 1)]), False)

    def test_all_marks_of_small_rows(self):
        for row in by_hand.rows_to("ab", 7) + by_hand.rows_to("abc", 5):
            for marks in by_hand.all_marks(row):
                self.assertIs(is_cutting(row, marks), cutting(row, marks), (row, marks))

    def test_its_ends_are_a_net(self):
        for row in by_hand.rows_to("ab", 6) + by_hand.rows_to("abc", 4):
            for marks in by_hand.all_marks(row):
                if is_cutting(row, marks):
                    self.assertTrue(by_hand.net(row, marks), (row, marks))


class FirstCutting(unittest.TestCase):
    """[5.2]"""

    def test_ordinary_rows(self):
        self.assertEqual(first_cutting("abababcab"), [0, 1, 6])
        self.assertEqual(first_cutting("banana"), [0, 1, 2])
        self.assertEqual(first_cutting("abcabcd"), [0, 1, 2, 6])
        self.assertEqual(first_cutting("abcd"), [0, 1, 2, 3])
        self.assertEqual(first_cutting("aaaaaa"), [0])
        self.assertEqual(first_cutting("aaab"), [0, 3])

    def test_rows_of_no_and_of_one_letter(self):
        self.assertEqual(first_cutting(""), [])
        self.assertEqual(first_cutting("a"), [0])
        self.assertEqual(first_cutting("z"), [0])

    def test_end_by_end(self):
        for row in by_hand.rows_to("ab", 9) + by_hand.rows_to("abc", 6) + list(by_hand.LONG_ROWS):
            ends = first_cutting(row)
            self.assertEqual(ends, first_by_the_words(row))
            self.assertTrue(cutting(row, ends))

    def test_no_left_cutting_has_fewer_ends(self):
        for row in by_hand.rows_to("ab", 8) + by_hand.rows_to("abc", 6):
            many = len(first_cutting(row))
            for marks in by_hand.all_marks(row):
                if len(marks) >= many:
                    break
                self.assertFalse(cutting(row, marks), (row, marks))

    def test_its_ends_are_a_net(self):
        for row in by_hand.rows_to("ab", 8) + list(by_hand.LONG_ROWS):
            self.assertTrue(by_hand.net(row, first_cutting(row)), row)


class NewStretches(unittest.TestCase):
    """[5.3]"""

    def test_those_of_the_first_cutting(self):
        self.assertEqual(new_stretches("abababcab"), [(0, 1), (1, 2), (2, 7)])
        self.assertEqual(new_stretches("aaaaaa"), [(0, 1)])
        self.assertEqual(new_stretches("aaab"), [(0, 1), (1, 4)])
        self.assertEqual(new_stretches(""), [])
        self.assertEqual(new_stretches("a"), [(0, 1)])

    def test_each_goes_from_behind_an_end_to_the_next_one(self):
        for row in by_hand.rows_to("ab", 8) + by_hand.rows_to("abc", 5) + list(by_hand.LONG_ROWS):
            ends = first_by_the_words(row)
            begins = [0] + [end + 1 for end in ends]
            told = new_stretches(row)
            self.assertEqual(told, [(begin, end + 1) for begin, end in zip(begins, ends)])
            self.assertIs(are_new(row, told), True)
            for stretch in told:
                self.assertIs(type(stretch), tuple)

    def test_each_left_cutting_has_an_end_in_each(self):
        for row in by_hand.rows_to("ab", 7) + by_hand.rows_to("abc", 4):
            told = new_stretches(row)
            for marks in by_hand.all_marks(row):
                if cutting(row, marks):
                    for begin, behind in told:
                        self.assertTrue(any(begin <= mark < behind for mark in marks))


class AreNew(unittest.TestCase):
    """[5.3]"""

    def test_perhaps_of_none(self):
        for row in ("", "a", "abab", "a" * 60):
            self.assertIs(are_new(row, []), True)

    def test_some_that_are_not_those_of_the_first_cutting(self):
        self.assertIs(are_new("abab", [(0, 4)]), True)
        self.assertIs(are_new("abab", [(0, 2)]), True)
        self.assertIs(are_new("abab", [(1, 2)]), True)
        self.assertIs(are_new("abab", [(0, 1), (1, 3)]), True)
        self.assertIs(are_new("ababb", [(1, 3), (3, 5)]), True)

    def test_a_stretch_that_stands_earlier(self):
        for stretch in ((2, 3), (2, 4), (3, 4)):
            self.assertIs(are_new("abab", [stretch]), False)
            self.assertIs(are_new("abab", [(0, 1), (1, 2), stretch]), False)
        # It stands earlier, too, where it reaches into itself.
        self.assertIs(are_new("aaaa", [(1, 4)]), False)
        self.assertIs(are_new("aaaa", [(0, 4)]), True)

    def test_one_over_another_or_out_of_order(self):
        self.assertIs(are_new("abcd", [(0, 2), (2, 4)]), True)
        for thing in ([(0, 2), (1, 4)], [(0, 3), (2, 4)], [(0, 4), (1, 2)], [(2, 4), (0, 2)],
                      [(0, 2), (0, 2)], [(0, 2), (2, 4), (2, 4)], [(0, 2), (2, 4), (0, 2)]):
            self.assertIs(are_new("abcd", thing), False, thing)

    def test_beyond_the_row_or_empty(self):
        for stretch in ((0, 0), (1, 1), (4, 4), (2, 1), (-1, 2), (-1, 0), (-4, -1), (0, 5), (3, 5), (4, 5), (5, 6),
                        (0, 10 ** 59), (-10 ** 59, 1), (10 ** 59, 10 ** 59 + 1)):
            self.assertIs(are_new("abcd", [stretch]), False, stretch)
        for stretch in ((0, 0), (0, 1), (-1, 0)):
            self.assertIs(are_new("", [stretch]), False)

    def test_tuples_of_other_lengths(self):
        for thing in ((), (0,), (0, 1, 2), (0, 1, None), ((0, 1),), ((0, 1), (1, 2)), tuple(range(1000))):
            self.assertIs(are_new("abcd", [thing]), False, thing)
            self.assertIs(are_new("abcd", [(0, 1), thing]), False, thing)

    def test_things_of_other_kinds(self):
        for thing in ODD_THINGS + ([0, 1], 0, 1, "ab", {0: 1}, range(2)):
            if thing != (0, 1):
                self.assertIs(are_new("abcd", [thing]), False, thing)
                self.assertIs(are_new("abcd", [(0, 1), thing]), False, thing)
        for thing in ODD_THINGS:
            self.assertIs(are_new("abcd", [(0, thing)]), False, thing)
            self.assertIs(are_new("abcd", [(thing, 2)]), False, thing)
        self.assertIs(are_new("abcd", [(False, True)]), False)
        self.assertIs(are_new("abcd", [(0, True)]), False)
        self.assertIs(are_new("abcd", [(False, 1)]), False)
        for thing in (((0, 1),), {(0, 1): 1}, None, "ab"):
            self.assertIs(are_new("abcd", thing), False, thing)

    def test_all_pairs_of_stretches_of_small_rows(self):
        for row in by_hand.rows_to("ab", 4) + ["abcab", "aabaa"]:
            pairs = [(begin, behind) for begin in range(-1, len(row) + 2) for behind in range(-1, len(row) + 2)]
            new = [(begin, behind) for begin, behind in pairs
                   if 0 <= begin < behind <= len(row) and not earlier(row, begin, behind)]
            for one in pairs:
                self.assertIs(are_new(row, [one]), one in new)
                for other in pairs:
                    want = one in new and other in new and one[1] <= other[0]
                    self.assertIs(are_new(row, [one, other]), want, (row, one, other))


class Told(unittest.TestCase):
    """[0.2]"""

    def test_what_is_handed_in_stays(self):
        ends, stretches, wrong = [0, 1], [(0, 1), (1, 2)], [(2, 3), [None], "a", (0, 1)]
        is_cutting("abab", ends)
        are_new("abab", stretches)
        is_cutting("abab", wrong)
        are_new("abab", wrong)
        self.assertEqual((ends, stretches), ([0, 1], [(0, 1), (1, 2)]))
        self.assertEqual(wrong, [(2, 3), [None], "a", (0, 1)])

    def test_a_told_list_is_the_askers_own(self):
        for call in (first_cutting, new_stretches):
            kept = list(call("abababcab"))
            call("abababcab").clear()
            call("abababcab").append(7)
            self.assertEqual(call("abababcab"), kept)
            self.assertIsNot(call("abababcab"), call("abababcab"))


if __name__ == "__main__":
    unittest.main()
