import unittest
from copy import deepcopy

import by_hand
from likemarks.errors import NoLetter, NoNet, NoPlace, TooMany
from likemarks.nets import is_net, leaner
from likemarks.rings import ring_lacking, ring_of, ring_places, root, told_again, turned

FAR = 10 ** 59
SMALL = by_hand.rows_to("ab", 6)[1:] + by_hand.rows_to("abc", 4)[1:]
LONG = list(by_hand.LONG_ROWS) + ["ab" * 29 + "a", "aab" * 20, "abcde" * 12]
# Lists of numbers that are no ring net of "aab".
NO_RING_NETS = ([], [0], [2], [0, 1], [2, 0], [0, 0, 2], [0, 2, 3], [-1, 0, 2], [0, 2, FAR], [-FAR, 0, 2], [2, 2])


def round_word(row, begin, many):
    """The letters from a place of the ring on, one by one."""
    return "".join(row[(begin + k) % len(row)] for k in range(many))


def ring_places_by_the_words(row, word):
    return [begin for begin in range(len(row))
            if len(word) <= len(row) and round_word(row, begin, len(word)) == word]


def ring_lacking_by_the_words(row, marks):
    met, standing = set(), set()
    for begin in range(len(row)):
        for many in range(1, len(row) + 1):
            standing.add(round_word(row, begin, many))
            if any((begin + k) % len(row) in marks for k in range(many)):
                met.add(round_word(row, begin, many))
    return next(iter(by_hand.in_order(standing - met)), None)


def ring_nets_of(row):
    return [marks for marks in by_hand.all_marks(row) if ring_lacking_by_the_words(row, marks) is None]


def lean_ring_net(row):
    """A ring net of a long row in which no mark can be left out."""
    marks = list(range(len(row)))
    for mark in list(marks):
        others = [other for other in marks if other != mark]
        if ring_lacking_by_the_words(row, others) is None:
            marks = others
    return marks


class RingPlaces(unittest.TestCase):
    """[13.1]"""

    def test_ordinary_words(self):
        self.assertEqual(ring_places("banana", "an"), [1, 3])
        self.assertEqual(ring_places("banana", "a"), [1, 3, 5])
        self.assertEqual(ring_places("banana", "bb"), [])
        self.assertEqual(ring_places("banana", "nb"), [])
        self.assertEqual(ring_places("banana", "c"), [])

    def test_over_the_rings_end(self):
        self.assertEqual(ring_places("banana", "ab"), [5])
        self.assertEqual(ring_places("banana", "naba"), [4])
        self.assertEqual(ring_places("aab", "aa"), [0])
        self.assertEqual(ring_places("aba", "aa"), [2])
        self.assertEqual(ring_places("abab", "bab"), [1, 3])

    def test_of_all_its_letters(self):
        self.assertEqual(ring_places("banana", "banana"), [0])
        self.assertEqual(ring_places("banana", "nanaba"), [2])
        self.assertEqual(ring_places("abab", "baba"), [1, 3])
        self.assertEqual(ring_places("a" * 60, "a" * 60), list(range(60)))
        self.assertEqual(ring_places("a", "a"), [0])

    def test_longer_ones(self):
        self.assertEqual(ring_places("a", "aa"), [])
        self.assertEqual(ring_places("abab", "ababa"), [])
        self.assertEqual(ring_places("ab", "ab" * 30), [])
        self.assertEqual(ring_places("a" * 59, "a" * 60), [])

    def test_small_rows(self):
        words = by_hand.rows_to("ab", 6)[1:] + ["c", "ac", "cab", "abc", "bca"]
        for row in SMALL:
            for word in words:
                self.assertEqual(ring_places(row, word), ring_places_by_the_words(row, word), (row, word))

    def test_long_rows(self):
        for row in LONG:
            for begin in range(0, len(row), 7):
                for many in (1, 2, 5, 13, 34, len(row) - 1, len(row)):
                    word = round_word(row, begin, many)
                    self.assertEqual(ring_places(row, word), ring_places_by_the_words(row, word))

    def test_no_letter(self):
        for word in ("a", "ab", "z" * 60):
            by_hand.raised(self, NoLetter, ring_places, "", word)


class RingLacking(unittest.TestCase):
    """[13.1]"""

    def test_ordinary_rows(self):
        self.assertIs(ring_lacking("a", [0]), None)
        self.assertEqual(ring_lacking("a", []), "a")
        self.assertEqual(ring_lacking("banana", []), "a")
        self.assertEqual(ring_lacking("banana", [5]), "b")
        self.assertEqual(ring_lacking("aab", [1]), "b")
        self.assertIs(ring_lacking("aab", [0, 2]), None)
        self.assertIs(ring_lacking("aab", [1, 2]), None)

    def test_words_over_the_rings_end(self):
        # "aa" stands only round: at 2 and 0.
        self.assertIs(ring_lacking("aba", [0, 1]), None)
        self.assertEqual(ring_lacking("abcba", [1, 2]), "a")
        self.assertIs(ring_lacking("abcba", [0, 2, 3]), None)
        self.assertEqual(ring_lacking("bacab", [1, 2, 3]), "b")
        self.assertEqual(ring_lacking("abcaabc", [1, 2, 3]), None)
        self.assertEqual(ring_lacking("bcdabcdd", [1, 2, 3, 4]), "db")
        self.assertEqual(ring_lacking("bcdabcdd", [0, 1, 2, 3]), "dd")

    def test_all_marks_of_small_rows(self):
        for row in SMALL:
            for marks in by_hand.all_marks(row):
                self.assertEqual(ring_lacking(row, marks), ring_lacking_by_the_words(row, marks), (row, marks))

    def test_long_rows(self):
        for row in LONG:
            for marks in ([0], [len(row) - 1], [0, 1], list(range(0, len(row), 5)), list(range(10, 40))):
                self.assertEqual(ring_lacking(row, marks), ring_lacking_by_the_words(row, marks), (row, marks))
            self.assertIs(ring_lacking(row, list(range(len(row)))), None)

    def test_no_letter(self):
        by_hand.raised(self, NoLetter, ring_lacking, "", [])


class RingOf(unittest.TestCase):
    """[13.2]"""

    def test_ordinary_rows(self):
        self.assertEqual(ring_of("a", [0]), [0])
        self.assertEqual(ring_of("banana", [0, 1, 2]), [0, 1, 2, 5])
        self.assertEqual(ring_of("aab", [0, 2]), [0, 2])
        self.assertEqual(ring_of("a" * 60, [3]), [3, 59])

    def test_all_small_nets(self):
        for row in SMALL:
            for marks in by_hand.nets_of(row):
                told = ring_of(row, marks)
                self.assertEqual(told, sorted(set(marks) | {len(row) - 1}))
                self.assertIs(ring_lacking_by_the_words(row, told), None)

    def test_long_nets(self):
        for row in LONG:
            told = ring_of(row, leaner(row, list(range(len(row)))))
            self.assertIs(ring_lacking_by_the_words(row, told), None)

    def test_no_letter_first(self):
        for marks in ([], [0], [-1], [FAR]):
            by_hand.raised(self, NoLetter, ring_of, "", marks)

    def test_no_net(self):
        for marks in ([], [0], [2], [0, 1], [2, 0], [0, 0, 2], [0, 2, 3], [-1, 0, 2], [FAR], [-FAR, 0, 2]):
            by_hand.raised(self, NoNet, ring_of, "aab", marks)
        # "ba" stands over a mark round the end alone: a ring net that is no net.
        self.assertIs(ring_lacking("abab", [0, 3]), None)
        by_hand.raised(self, NoNet, ring_of, "abab", [0, 3])
        for row in SMALL[::2]:
            for marks in ring_nets_of(row):
                if by_hand.net(row, marks):
                    self.assertEqual(ring_of(row, marks)[-1], len(row) - 1)
                else:
                    by_hand.raised(self, NoNet, ring_of, row, marks)


class ToldAgain(unittest.TestCase):
    """[13.2]"""

    def test_ordinary_rows(self):
        self.assertEqual(told_again("a", [0], 3), ("aaa", [1]))
        self.assertEqual(told_again("aab", [0, 2], 3), ("aabaabaab", [3, 5]))
        self.assertEqual(told_again("aab", [0, 2], 5), ("aab" * 5, [3, 5]))
        self.assertEqual(told_again("a", [0], 60), ("a" * 60, [1]))
        self.assertEqual(told_again("ab" * 10, [0, 1], 3), ("ab" * 30, [20, 21]))

    def test_all_small_ring_nets(self):
        for row in SMALL:
            for marks in by_hand.all_marks(row):
                if ring_lacking_by_the_words(row, marks) is None:
                    for times in (3, 4, 60 // len(row)):
                        told = told_again(row, marks, times)
                        self.assertEqual(told, (row * times, [mark + len(row) for mark in marks]))
                        self.assertTrue(is_net(*told), (row, marks))
                else:
                    by_hand.raised(self, NoNet, told_again, row, marks, 3)

    def test_rows_of_up_to_twenty_letters(self):
        for row in ("abaababaabaababaabab", "aaaaaaaaaaaaaaaaaaab", "abcdefghijklmnopqrst", "aabbaabbaabbaabba"):
            told_row, told_marks = told_again(row, lean_ring_net(row), 3)
            self.assertEqual(told_row, row * 3)
            self.assertTrue(is_net(told_row, told_marks))

    def test_no_letter_first(self):
        for marks, times in (([], 3), ([0], 3), ([], 2), ([], 61), ([FAR], -1)):
            by_hand.raised(self, NoLetter, told_again, "", marks, times)

    def test_then_no_net(self):
        for marks in NO_RING_NETS:
            for times in (3, 20, 21, 2, 0, -1, FAR, -FAR):
                by_hand.raised(self, NoNet, told_again, "aab", marks, times)

    def test_then_no_place(self):
        for times in (2, 1, 0, -1, -3, -FAR):
            by_hand.raised(self, NoPlace, told_again, "aab", [0, 2], times)
            by_hand.raised(self, NoPlace, told_again, "a" * 60, [0], times)

    def test_at_last_too_many(self):
        self.assertEqual(told_again("aab", [0, 2], 20), ("aab" * 20, [3, 5]))
        self.assertEqual(told_again("a" * 20, [4], 3), ("a" * 60, [24]))
        for times in (21, 22, 60, FAR):
            by_hand.raised(self, TooMany, told_again, "aab", [0, 2], times)
        by_hand.raised(self, TooMany, told_again, "a" * 21, [4], 3)
        by_hand.raised(self, TooMany, told_again, "a" * 60, [4], 3)
        by_hand.raised(self, TooMany, told_again, "a", [0], 61)


class Turned(unittest.TestCase):
    """[13.2]"""

    def test_ordinary_rows(self):
        self.assertEqual(turned("a", [0], 7), ("a", [0]))
        self.assertEqual(turned("banana", [0, 1, 5], 0), ("banana", [0, 1, 5]))
        self.assertEqual(turned("banana", [0, 1, 5], 1), ("ananab", [0, 4, 5]))
        self.assertEqual(turned("banana", [0, 1, 5], 2), ("nanaba", [3, 4, 5]))
        self.assertEqual(turned("banana", [0, 1, 5], 6), ("banana", [0, 1, 5]))

    def test_by_numbers_below_0_and_far_ones(self):
        self.assertEqual(turned("banana", [0, 1, 5], -1), ("abanan", [0, 1, 2]))
        self.assertEqual(turned("banana", [0, 1, 5], -5), turned("banana", [0, 1, 5], 1))
        self.assertEqual(turned("banana", [0, 1, 5], 6 * FAR + 1), turned("banana", [0, 1, 5], 1))
        self.assertEqual(turned("banana", [0, 1, 5], -6 * FAR + 2), turned("banana", [0, 1, 5], 2))

    def test_place_by_place_and_back(self):
        for row in ("a", "ab", "aab", "banana", "abcabca", "a" * 60, by_hand.LONG_ROWS[6]):
            marks = list(range(0, len(row), 3))
            for k in list(range(-len(row) - 2, 2 * len(row) + 2)) + [FAR, -FAR]:
                told_row, told_marks = turned(row, marks, k)
                self.assertEqual(told_row, "".join(row[(place + k) % len(row)] for place in range(len(row))))
                self.assertEqual(told_marks, [place for place in range(len(row)) if (place + k) % len(row) in marks])
                self.assertEqual(turned(told_row, told_marks, -k), (row, marks))

    def test_nets_of_the_one_ring_are_such_of_the_other(self):
        for row in by_hand.rows_to("ab", 5)[1:] + ["abc", "abca"]:
            for marks in by_hand.all_marks(row):
                for k in range(1, len(row)):
                    told = turned(row, marks, k)
                    self.assertEqual(ring_lacking(*told), ring_lacking(row, marks))

    def test_no_marks(self):
        self.assertEqual(turned("banana", [], 2), ("nanaba", []))

    def test_no_letter(self):
        for k in (0, 1, -1, FAR):
            by_hand.raised(self, NoLetter, turned, "", [], k)


class Root(unittest.TestCase):
    """[13.2]"""

    def test_ordinary_rows(self):
        self.assertEqual(root("ababab"), ("ab", 3))
        self.assertEqual(root("a" * 60), ("a", 60))
        self.assertEqual(root("aabaab"), ("aab", 2))
        self.assertEqual(root("abcde" * 12), ("abcde", 12))

    def test_a_row_that_is_its_own_root(self):
        for row in ("a", "ab", "aab", "aba", "ababa", "banana", "a" * 59 + "b", "ab" * 29 + "a", "aabaa"):
            self.assertEqual(root(row), (row, 1))

    def test_small_rows(self):
        for row in SMALL + by_hand.rows_to("ab", 9)[-512:]:
            want = [row[:many] for many in range(1, len(row) + 1)
                    if len(row) % many == 0 and row[:many] * (len(row) // many) == row][0]
            self.assertEqual(root(row), (want, len(row) // len(want)))

    def test_a_ring_net_of_the_root_is_one_of_the_row(self):
        for row in by_hand.rows_to("ab", 4)[1:]:
            for times in (2, 3):
                short, _ = root(row * times)
                for marks in ring_nets_of(short):
                    self.assertIs(ring_lacking(row * times, marks), None)

    def test_no_letter(self):
        by_hand.raised(self, NoLetter, root, "")


class Told(unittest.TestCase):
    """[0.2]"""

    def test_what_is_handed_in_stays(self):
        marks = [0, 2]
        for call, handed in ((ring_lacking, ("aab", marks)), (ring_of, ("aab", marks)),
                             (told_again, ("aab", marks, 3)), (turned, ("aab", marks, 1))):
            call(*handed)
            self.assertEqual(marks, [0, 2])
        wrong = [2, 0]
        by_hand.raised(self, NoNet, told_again, "aab", wrong, 3)
        by_hand.raised(self, NoPlace, told_again, "aab", marks, 2)
        self.assertEqual((wrong, marks), ([2, 0], [0, 2]))

    def test_what_is_told_is_the_askers_own(self):
        marks = [0, 2]
        calls = ((ring_places, ("aab", "a")), (ring_of, ("aab", marks)), (told_again, ("aab", marks, 3)),
                 (turned, ("aab", marks, 0)), (turned, ("aab", marks, 3)), (ring_places, ("aab", "aaaa")))
        for call, handed in calls:
            kept = deepcopy(call(*handed))
            for part in by_hand.lists_within(call(*handed)):
                part.append(77)
            self.assertEqual(call(*handed), kept)
        self.assertEqual(marks, [0, 2])
        by_hand.all_one_each(self, marks, *[call(*handed) for call, handed in calls + calls])


if __name__ == "__main__":
    unittest.main()
