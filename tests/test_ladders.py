import unittest
from copy import deepcopy

import by_hand
from likemarks.errors import NoLetter, NoNet, NoPlace
from likemarks.ladders import fetched, hops, ladder_of, met_places, met_words, row_of
from likemarks.nets import leaner

# h is 3, so the quarters of the two levels have 4, 2 and 1 places.
BANANA = (6, [0, 1, 2], "ban", [
    [[None, None, (0, 0), (2, 0)], [None, (0, -3), (1, 0), (1, 0)], [None, (0, -2), (2, 0), None]],
    [[None, None, (0, 0), (2, 0)], [None, (0, -1), (1, 0), (1, 0)], [None, (0, 0), (2, 0), (2, 0)]],
    [[None, None, (0, 0), (1, 0)], [None, (0, 0), (1, 0), (2, 0)], [(0, 0), (1, 0), (2, 0), (1, 0)]]])
LENGTHS = (1, 2, 3, 4, 5, 7, 8, 9, 15, 16, 17, 31, 32, 33, 59, 60)


def quarter_by_the_words(row, marks, begin, many):
    lies = [place for place in range(begin, begin + many) if 0 <= place < len(row)]
    if not lies:
        return None
    word = row[lies[0]:lies[-1] + 1]
    place = row.index(word)
    while row[place:place + len(word)] != word or not any(place <= mark < place + len(word) for mark in marks):
        place += 1
    mark = min(mark for mark in marks if place <= mark < place + len(word))
    # The places of the quarter ahead of the row are counted, too.
    ahead = lies[0] - begin
    return (marks.index(mark), place - ahead - mark)


def ladder_by_the_words(row, marks):
    h = 0
    while 2 ** h < len(row):
        h += 1
    levels = []
    for level in range(h):
        s = 2 ** (h - level)
        levels.append([[quarter_by_the_words(row, marks, mark - s + k * (s // 2), s // 2) for k in range(4)]
                       for mark in marks])
    return (len(row), marks, "".join(row[mark] for mark in marks), levels)


def hops_by_the_words(ladder, place):
    n, marks, _, levels = ladder
    h = len(levels)
    told = [(0, place - marks[0])]
    for level in range(h):
        s = 2 ** (h - level)
        number, o = told[-1]
        k, base = levels[level][number][(o + s) // (s // 2)]
        told.append((k, base + (o + s) % (s // 2)))
    return told


def nets_to_try(row):
    """Some nets of a row: all its places, a lean one, and some between."""
    every = list(range(len(row)))
    lean = leaner(row, every)
    return [every, lean, sorted(set(lean + every[::5])), sorted(set(lean + every[-4:]))]


class LadderOf(unittest.TestCase):
    """[9.1]"""

    def test_an_ordinary_row(self):
        self.assertEqual(ladder_of("banana", [0, 1, 2]), BANANA)

    def test_one_letter(self):
        self.assertEqual(ladder_of("a", [0]), (1, [0], "a", []))

    def test_two_letters(self):
        self.assertEqual(ladder_of("ab", [0, 1]),
                         (2, [0, 1], "ab", [[[None, None, (0, 0), (1, 0)], [None, (0, 0), (1, 0), None]]]))
        self.assertEqual(ladder_of("aa", [1]), (2, [1], "a", [[[None, (0, 0), (0, 0), None]]]))
        self.assertEqual(ladder_of("aa", [0]), (2, [0], "a", [[[None, None, (0, 0), (0, 0)]]]))

    def test_three_letters(self):
        self.assertEqual(ladder_of("aaa", [1]),
                         (3, [1], "a", [[[None, (0, -1), (0, -1), None]], [[None, (0, 0), (0, 0), (0, 0)]]]))
        self.assertEqual(ladder_of("aba", [1, 2]), (3, [1, 2], "ba", [
            [[None, (1, -1), (0, 0), None], [None, (0, -1), (1, 0), None]],
            [[None, (1, 0), (0, 0), (1, 0)], [(1, 0), (0, 0), (1, 0), None]]]))

    def test_places_beyond_the_row_are_counted(self):
        # Behind it: the last quarter has one place of the row, ahead of it: the first one has two.
        told = ladder_of("abcde", [0, 1, 2, 3, 4])
        self.assertEqual(told[3][0][0], [None, None, (0, 0), (4, 0)])
        self.assertEqual(told[3][0][2], [None, (0, -2), (2, 0), None])

    def test_the_least_mark_at_the_least_place_over_a_mark(self):
        # "ab" stands at 0 and 2; over a mark at 2 first, as 1 and 0 are none.
        marks = [2, 3, 4, 5]
        told = ladder_of("ababac", marks)
        self.assertEqual(told, ladder_by_the_words("ababac", marks))
        self.assertEqual(told[3][1][0][1], (0, 0))
        every = ladder_of("ababac", [0, 1, 2, 3, 4, 5])
        self.assertEqual(every[3][1][2][2], (0, 0))

    def test_all_nets_of_small_rows(self):
        for row in by_hand.rows_to("ab", 6)[1:] + by_hand.rows_to("abc", 4)[1:]:
            for marks in by_hand.nets_of(row):
                self.assertEqual(ladder_of(row, marks), ladder_by_the_words(row, marks), (row, marks))

    def test_lengths_that_are_a_power_of_two_and_that_are_none(self):
        for many, h in zip(LENGTHS, (0, 1, 2, 2, 3, 3, 3, 4, 4, 4, 5, 5, 5, 6, 6, 6)):
            for row in ((by_hand.FIBONACCI * 3)[:many], "a" * many, ("aabbaaabbbaaaabbbb" * 4)[:many]):
                for marks in nets_to_try(row):
                    told = ladder_of(row, marks)
                    self.assertEqual(len(told[3]), h)
                    self.assertEqual(told, ladder_by_the_words(row, marks), (row, marks))

    def test_the_kinds_of_what_is_told(self):
        told = ladder_of("banana", [0, 1, 2])
        self.assertEqual([type(part) for part in told], [int, list, str, list])
        self.assertIs(type(told), tuple)
        for level in told[3]:
            self.assertIs(type(level), list)
            for quarters in level:
                self.assertIs(type(quarters), list)
                self.assertLessEqual({type(quarter) for quarter in quarters}, {tuple, type(None)})

    def test_no_net_is_refused(self):
        for row, marks in (("ab", []), ("ab", [0]), ("ab", [1, 0]), ("ab", [0, 0, 1]), ("ab", [0, 1, 2]),
                           ("ab", [-1, 0, 1]), ("ab", [0, 10 ** 59]), ("a", []), ("a", [1]), ("a", [0, 0]),
                           ("abab", [0, 3]), ("a" * 60, []), ("a" * 60, [60])):
            by_hand.raised(self, NoNet, ladder_of, row, marks)

    def test_the_row_without_letters_is_refused_ahead_of_what_is_no_net(self):
        for marks in ([], [0], [1, 0], [-1], [10 ** 59]):
            by_hand.raised(self, NoLetter, ladder_of, "", marks)


class Hops(unittest.TestCase):
    """[9.2]"""

    def test_ordinary_hops(self):
        self.assertEqual(hops(BANANA, 5), [(0, 5), (2, 1), (2, 1), (1, 0)])
        self.assertEqual(hops(BANANA, 0), [(0, 0), (0, 0), (0, 0), (0, 0)])
        self.assertEqual(hops((1, [0], "a", []), 0), [(0, 0)])

    def test_a_first_mark_behind_the_place(self):
        ladder = ladder_of("aaaa", [3])
        self.assertEqual(hops(ladder, 0)[0], (0, -3))
        self.assertEqual(hops(ladder, 3)[0], (0, 0))

    def test_each_place(self):
        for many in LENGTHS:
            for row in ((by_hand.FIBONACCI * 3)[:many], ("aabbaaabbbaaaabbbb" * 4)[:many]):
                for marks in nets_to_try(row):
                    ladder = ladder_of(row, marks)
                    for place in range(many):
                        told = hops(ladder, place)
                        self.assertEqual(told, hops_by_the_words(ladder, place))
                        self.assertEqual(len(told), len(ladder[3]) + 1)
                        self.assertEqual(told[-1][1], 0)
                        self.assertEqual(ladder[2][told[-1][0]], row[place])
                        self.assertEqual({type(hop) for hop in told}, {tuple})

    def test_each_letter_and_the_whole_row(self):
        for row in by_hand.rows_to("ab", 6)[1:] + by_hand.rows_to("abc", 4)[1:]:
            for marks in by_hand.nets_of(row):
                ladder = ladder_of(row, marks)
                self.assertEqual([fetched(ladder, place) for place in range(len(row))], list(row))
                self.assertEqual(row_of(ladder), row)

    def test_long_rows(self):
        for row in by_hand.LONG_ROWS:
            for marks in nets_to_try(row):
                ladder = ladder_of(row, marks)
                self.assertEqual([fetched(ladder, place) for place in range(len(row))], list(row))
                self.assertEqual(row_of(ladder), row)

    def test_no_place(self):
        for ladder in (BANANA, (1, [0], "a", []), ladder_of("a" * 60, [13])):
            n = ladder[0]
            for place in (-1, -2, -n, n, n + 1, 2 * n, 10 ** 59, -10 ** 59):
                by_hand.raised(self, NoPlace, hops, ladder, place)
                by_hand.raised(self, NoPlace, fetched, ladder, place)


class Met(unittest.TestCase):
    """[9.3]"""

    def test_ordinary_words(self):
        self.assertEqual(met_places(BANANA, "an"), [1])
        self.assertEqual(met_places(BANANA, "ana"), [1])
        self.assertEqual(met_places(BANANA, "anan"), [1])
        self.assertEqual(met_places(BANANA, "na"), [2])
        self.assertEqual(met_places(BANANA, "a"), [1])
        self.assertEqual(met_places(BANANA, "banana"), [0])
        self.assertEqual(met_words(BANANA, 1), ["a", "b", "n"])
        self.assertEqual(met_words(BANANA, 3), ["ana", "ban", "nan"])

    def test_several_places_rising(self):
        ladder = ladder_of("banana", [0, 1, 2, 3, 4, 5])
        self.assertEqual(met_places(ladder, "a"), [1, 3, 5])
        self.assertEqual(met_places(ladder, "ana"), [1, 3])

    def test_words_that_stand_nowhere_or_are_longer(self):
        for word in ("c", "nb", "ab", "aa", "bananas", "bananab", "ananan", "a" * 60, "banana" * 10):
            self.assertEqual(met_places(BANANA, word), [])
        self.assertEqual(met_places((1, [0], "a", []), "aa"), [])
        self.assertEqual(met_places((1, [0], "a", []), "a"), [0])

    def test_as_many_letters_as_the_row_has_and_more(self):
        self.assertEqual(met_words(BANANA, 6), ["banana"])
        for many in (7, 8, 60, 61, 10 ** 59):
            self.assertEqual(met_words(BANANA, many), [])

    def test_against_looking_in_the_row(self):
        words = by_hand.rows_to("abc", 4)[1:]
        for row in by_hand.rows_to("ab", 5)[1:] + by_hand.rows_to("abc", 3)[1:]:
            for marks in by_hand.nets_of(row):
                ladder = deepcopy(ladder_of(row, marks))
                for word in words:
                    want = [i for i in range(len(row)) if by_hand.stands_over(row, marks, word, i)]
                    told = met_places(ladder, word)
                    self.assertEqual(told, want)
                    self.assertEqual(bool(told), word in row)
                for many in range(1, len(row) + 2):
                    want = sorted(word for word in by_hand.standing(row) if len(word) == many)
                    self.assertEqual(met_words(ladder, many), want)

    def test_long_rows(self):
        for row in by_hand.LONG_ROWS:
            marks = leaner(row, list(range(len(row))))
            ladder = ladder_of(row, marks)
            words = sorted(by_hand.standing(row))
            for many in range(1, len(row) + 2):
                self.assertEqual(met_words(ladder, many), [word for word in words if len(word) == many])
            for word in words[::29]:
                want = [i for i in range(len(row)) if by_hand.stands_over(row, marks, word, i)]
                self.assertEqual(met_places(ladder, word), want)
                self.assertTrue(want)


class Told(unittest.TestCase):
    """[0.2]"""

    def test_what_is_handed_in_stays(self):
        marks = [0, 1, 2]
        ladder_of("banana", marks)
        wrong = [2, 1, 7]
        by_hand.raised(self, NoNet, ladder_of, "banana", wrong)
        self.assertEqual((marks, wrong), ([0, 1, 2], [2, 1, 7]))
        ladder = deepcopy(BANANA)
        hops(ladder, 3), fetched(ladder, 3), row_of(ladder), met_places(ladder, "an"), met_words(ladder, 2)
        by_hand.raised(self, NoPlace, hops, ladder, 6)
        self.assertEqual(ladder, BANANA)

    def test_the_marks_handed_in_are_not_kept(self):
        marks = [0, 1, 2]
        told = ladder_of("banana", marks)
        self.assertIsNot(told[1], marks)
        marks.clear()
        self.assertEqual(told, BANANA)
        told[1].append(5)
        self.assertEqual(marks, [])

    def test_what_is_told_is_the_askers_own(self):
        for told in by_hand.lists_within(ladder_of("banana", [0, 1, 2])):
            told.clear()
        self.assertEqual(ladder_of("banana", [0, 1, 2]), BANANA)
        for call, handed in ((hops, 3), (met_places, "an"), (met_words, 2)):
            kept = list(call(BANANA, handed))
            call(BANANA, handed).clear()
            self.assertEqual(call(BANANA, handed), kept)

    def test_no_two_told_lists_are_one(self):
        marks = [0, 1, 2]
        told = [marks, ladder_of("banana", marks), ladder_of("banana", marks), ladder_of("aaaa", [0]), BANANA]
        told += [call(BANANA, handed) for call, handed in ((hops, 3), (met_places, "an"), (met_words, 2))] * 2
        within = by_hand.lists_within(told)
        self.assertEqual(len({id(part) for part in by_hand.lists_within(told[:5])}), len(by_hand.lists_within(told[:5])))
        self.assertGreater(len(within), 40)
        for call, handed in ((hops, 3), (met_places, "an"), (met_words, 2)):
            self.assertIsNot(call(BANANA, handed), call(BANANA, handed))


if __name__ == "__main__":
    unittest.main()
