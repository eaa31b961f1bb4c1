import unittest
from copy import deepcopy
from itertools import product

import by_hand
from by_hand import FIBONACCI
from likemarks.errors import NoPeriods, NoPlace, TooMany
from likemarks.nets import is_net
from likemarks.periods import has_two, standard, two_marks, walk

FAR = 10 ** 59
NUMBERS = list(range(-3, 15)) + [59, 60, 61, FAR, -FAR, FAR + 1]


def two_by_the_words(row, p, q):
    """The document's words one by one, with places instead of stretches."""
    if p < 2 or q < 1 or len(row) < p or len(row) < p + q - 2:
        return False
    if any(p % d == 0 and q % d == 0 for d in range(2, p + 1)):
        return False
    if any(row[i] != row[i + p] for i in range(len(row) - p)):
        return False
    return all(row[i] == row[j] for i in range(p + q - 2) for j in range(p + q - 2) if j - i == q)


def walk_by_the_words(p, q, begin, behind):
    many = behind - begin
    begins = [begin]
    while not {p - 2, p - 1} & set(range(begins[-1], begins[-1] + many)):
        begins.append(begins[-1] - p if begins[-1] >= p else begins[-1] + q)
    return begins


def most_unlike(p, q, long):
    """The row of so many letters with the two periods that has the most unlike letters."""
    goals = list(range(long))
    for _ in range(long):
        for i in range(long):
            for j in (i + p, i + q):
                if j < long and (j == i + p or j < p + q - 2):
                    goals[i] = goals[j] = min(goals[i], goals[j])
    letters = sorted(set(goals))
    return "".join("abcdefghijklmnopqrstuvwxyz"[letters.index(goal)] for goal in goals)


def standard_by_the_words(counts):
    """The standard row, each of the rows ahead by a call of its own, with its marks."""
    if not counts:
        return ("a", [0])
    if len(counts) == 1:
        return ("a" * counts[0] + "b", [counts[0] - 1, counts[0]])
    row = standard_by_the_words(counts[:-1])[0]
    ahead = standard_by_the_words(counts[:-2])[0]
    return (row * counts[-1] + ahead, [len(row) - 2, len(row) - 1])


def long_of(counts):
    """How many letters the standard row has."""
    ahead, many = 1, 1
    for count in counts:
        ahead, many = many, many * count + ahead
    return many


SMALL = by_hand.rows_to("ab", 7) + by_hand.rows_to("abc", 5)
TWO = [(row, p, q) for row in SMALL for p in range(1, 9) for q in range(0, 9) if two_by_the_words(row, p, q)]
LONG_TWO = [(most_unlike(p, q, long), p, q) for p, q, long in (
    (8, 5, 11), (8, 5, 20), (8, 5, 60), (13, 8, 60), (13, 5, 33), (5, 8, 60), (2, 57, 60), (2, 59, 60), (9, 4, 60),
    (7, 12, 60), (23, 39, 60), (31, 30, 60), (31, 30, 59), (4, 1, 60), (60, 1, 60), (59, 3, 60), (11, 10, 45))]
ROW = most_unlike(8, 5, 20)


class HasTwo(unittest.TestCase):
    """[12.2]"""

    def test_ordinary_rows(self):
        self.assertIs(has_two("abaababa", 5, 3), True)
        self.assertIs(has_two("abaaba", 5, 3), True)
        self.assertIs(has_two("aabaabaab", 3, 1), True)
        self.assertIs(has_two("abab", 2, 1), True)
        self.assertIs(has_two("abcabc", 3, 1), False)
        self.assertIs(has_two("abcabc", 3, 2), False)
        self.assertIs(has_two("aabaab", 3, 2), False)
        self.assertIs(has_two("abaaba", 3, 2), True)

    def test_q_is_one(self):
        # The first p - 1 letters are like ones.
        self.assertIs(has_two("aab", 3, 1), True)
        self.assertIs(has_two("aabaab", 3, 1), True)
        self.assertIs(has_two("abaaba", 3, 1), False)
        self.assertIs(has_two("ab", 2, 1), True)

    def test_the_other_way_about_one_more_or_less(self):
        self.assertEqual(ROW, "abaababa" "abaababa" "abaa")
        self.assertIs(has_two(ROW, 8, 5), True)
        for p, q in ((5, 8), (9, 5), (7, 5), (8, 6), (8, 4), (9, 6), (7, 4)):
            self.assertIs(has_two(ROW, p, q), False, (p, q))
        # Of just p + q - 2 letters it has them the other way about, too.
        self.assertIs(has_two(ROW[:11], 5, 8), True)

    def test_a_row_cut_short(self):
        for many in range(21):
            self.assertIs(has_two(ROW[:many], 8, 5), many >= 11, many)
        for many in range(6):
            self.assertIs(has_two("aabaa"[:many], 3, 1), many >= 3, many)

    def test_one_letter_otherwise(self):
        for place in range(20):
            for letter in "abz":
                other = ROW[:place] + letter + ROW[place + 1:]
                self.assertIs(has_two(other, 8, 5), other == ROW, (place, letter))
        # The last of the first p letters lies in no pair that is q apart.
        self.assertIs(has_two("aab", 3, 1), True)
        self.assertIs(has_two("aac", 3, 1), True)
        self.assertIs(has_two("acb", 3, 1), False)

    def test_numbers_with_a_common_divisor(self):
        for p, q in ((2, 2), (4, 2), (6, 3), (6, 4), (9, 3), (10, 5), (3, 3), (30, 30), (2, 58)):
            self.assertIs(has_two("a" * 60, p, q), False, (p, q))
        for p, q in ((2, 1), (4, 3), (6, 5), (9, 4), (10, 7), (31, 31 - 1), (2, 59), (59, 3), (60, 1)):
            self.assertIs(has_two("a" * 60, p, q), True, (p, q))

    def test_any_numbers(self):
        for row in ("", "a", "ab", "aab", "abaaba", "abaababa", "a" * 60, "ab" * 30, FIBONACCI):
            for p, q in product(NUMBERS, repeat=2):
                want = two_by_the_words(row, p, q) if abs(p) < 100 else False
                self.assertIs(has_two(row, p, q), want, (row, p, q))

    def test_small_rows(self):
        for row in SMALL:
            for p, q in product(range(-1, 9), repeat=2):
                self.assertIs(has_two(row, p, q), two_by_the_words(row, p, q), (row, p, q))


class TwoMarks(unittest.TestCase):
    """[12.2]"""

    def test_ordinary_rows(self):
        self.assertEqual(two_marks("abaaba", 5, 3), [3, 4])
        self.assertEqual(two_marks("ab", 2, 1), [0, 1])
        self.assertEqual(two_marks("a" * 60, 60, 1), [58, 59])

    def test_they_are_a_net(self):
        self.assertGreater(len(TWO), 100)
        for row, p, q in TWO + LONG_TWO:
            self.assertEqual(two_marks(row, p, q), [p - 2, p - 1])
            self.assertTrue(is_net(row, two_marks(row, p, q)), (row, p, q))

    def test_no_periods(self):
        for row in ("", "a", "aab", "abaaba"):
            for p, q in product(NUMBERS, repeat=2):
                if not has_two(row, p, q):
                    by_hand.raised(self, NoPeriods, two_marks, row, p, q)


class Walk(unittest.TestCase):
    """[12.2]"""

    def test_ordinary_rows(self):
        for told, begin, behind in (
                ([6], 6, 7), ([7], 7, 8), ([0], 0, 20), ([6], 6, 20), ([7], 7, 20), ([0], 0, 7),
                ([5, 10, 2, 7], 5, 6), ([0, 5, 10, 2, 7], 0, 1), ([8, 0, 5, 10, 2, 7], 8, 9), ([0, 5], 0, 6),
                ([19, 11, 3, 8, 0, 5, 10, 2, 7], 19, 20), ([8, 0, 5], 8, 10), ([8, 0], 8, 20)):
            self.assertEqual(walk(ROW, 8, 5, begin, behind), told)

    def test_step_by_step(self):
        for row, p, q in TWO + LONG_TWO:
            for begin, behind in by_hand.stretches(len(row)):
                told = walk(row, p, q, begin, behind)
                self.assertEqual(told, walk_by_the_words(p, q, begin, behind))
                many = behind - begin
                self.assertEqual({row[place:place + many] for place in told}, {row[begin:behind]})
                self.assertTrue(all(place + many <= len(row) for place in told))
                over = [place < p and place + many > p - 2 for place in told]
                self.assertEqual(over, [False] * (len(told) - 1) + [True])

    def test_no_periods_first(self):
        for begin, behind in ((0, 1), (0, 0), (-1, 1), (3, 99), (FAR, -FAR)):
            for p, q in ((3, 1), (3, 3), (0, 0), (-5, 3), (FAR, FAR), (1, 1), (5, 1), (5, 6)):
                by_hand.raised(self, NoPeriods, walk, "abaaba", p, q, begin, behind)
            by_hand.raised(self, NoPeriods, walk, "", 2, 1, begin, behind)

    def test_then_no_place(self):
        for begin, behind in ((0, 0), (3, 3), (6, 6), (-1, 1), (-1, 0), (0, 7), (6, 7), (2, 1), (5, 0), (FAR, FAR + 1),
                              (0, FAR), (-FAR, 3), (3, -FAR), (6, 8), (-2, -1)):
            by_hand.raised(self, NoPlace, walk, "abaaba", 5, 3, begin, behind)


class Standard(unittest.TestCase):
    """[12.3]"""

    def test_no_counts(self):
        self.assertEqual(standard([]), ("a", [0]))

    def test_one_count(self):
        self.assertEqual(standard([1]), ("ab", [0, 1]))
        self.assertEqual(standard([2]), ("aab", [1, 2]))
        self.assertEqual(standard([5]), ("aaaaab", [4, 5]))

    def test_several(self):
        self.assertEqual(standard([1, 1]), ("aba", [0, 1]))
        self.assertEqual(standard([1, 1, 1]), ("abaab", [1, 2]))
        self.assertEqual(standard([2, 3]), ("aabaabaaba", [1, 2]))
        self.assertEqual(standard([1, 2, 2]), ("ababa" * 2 + "ab", [3, 4]))
        self.assertEqual(standard([1] * 7)[0], FIBONACCI + FIBONACCI[:13])

    def test_all_small_ones(self):
        for many in range(5):
            for counts in product(range(1, 5), repeat=many):
                row, marks = standard_by_the_words(list(counts))
                if len(row) > 60:
                    by_hand.raised(self, TooMany, standard, list(counts))
                else:
                    self.assertEqual(standard(list(counts)), (row, marks), counts)
                    self.assertTrue(is_net(row, marks), counts)
                    self.assertIsNot(standard(list(counts))[1], standard(list(counts))[1])

    def test_just_sixty_letters(self):
        sixty = [counts for many in (1, 2, 3) for counts in product(range(1, 60), repeat=many)
                 if long_of(counts) == 60]
        self.assertIn((59,), sixty)
        self.assertEqual(len(sixty), 5)
        for counts in sixty:
            self.assertEqual(standard(list(counts)), standard_by_the_words(counts))
            self.assertTrue(is_net(*standard(list(counts))))

    def test_sixty_one_letters_and_more(self):
        for counts in ([60], [59, 1], [1, 30], [2, 20], [1] * 9, [1] * 60, [1] * 1000, [1, 1, 60]):
            by_hand.raised(self, TooMany, standard, counts)

    def test_counts_of_sixty_figures(self):
        for counts in ([FAR], [1, FAR], [1, 1, FAR], [FAR, 1], [FAR, FAR], [1, FAR, 1]):
            by_hand.raised(self, TooMany, standard, counts)

    def test_a_standard_row_led_on_has_two_periods(self):
        for counts in ([1, 1, 1], [2, 2], [1, 2, 1], [3, 1], [1, 1, 1, 1]):
            row, ahead = standard(counts)[0], standard(counts[:-1])[0]
            p, q = len(row), len(ahead)
            self.assertIs(has_two((row * 3)[:p + q - 2], p, q), True, counts)


class Told(unittest.TestCase):
    """[0.2]"""

    def test_what_is_handed_in_stays(self):
        counts = [1, 2, 3]
        standard(counts)
        self.assertEqual(counts, [1, 2, 3])
        wrong = [1, FAR, 3]
        by_hand.raised(self, TooMany, standard, wrong)
        self.assertEqual(wrong, [1, FAR, 3])

    def test_what_is_told_is_the_askers_own(self):
        calls = ((two_marks, ("abaaba", 5, 3)), (walk, ("abaaba", 5, 3, 0, 1)), (standard, ([],)),
                 (standard, ([2],)), (standard, ([2, 1],)))
        for call, handed in calls:
            kept = deepcopy(call(*handed))
            for part in by_hand.lists_within(call(*handed)):
                part.clear()
            self.assertEqual(call(*handed), kept)
        by_hand.all_one_each(self, *[call(*handed) for call, handed in calls + calls])


if __name__ == "__main__":
    unittest.main()
