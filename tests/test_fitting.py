import unittest
from copy import deepcopy

import by_hand
from likemarks.fitting import is_fitting
from likemarks.ladders import hops, ladder_of, row_of
from likemarks.nets import leaner
from test_ladders import LENGTHS, nets_to_try

ROW, MARKS = "banana", [0, 1, 2]


def number(thing):
    return type(thing) is int


def fitting_pair(row, marks, begin, many, thing):
    """The document's words for one quarter."""
    lies = [place for place in range(begin, begin + many) if 0 <= place < len(row)]
    if not lies:
        return thing is None
    if type(thing) is not tuple or len(thing) != 2 or not all(number(part) for part in thing):
        return False
    k, base = thing
    if k < 0 or k >= len(marks):
        return False
    goals = [place - begin + base + marks[k] for place in lies]
    return (marks[k] in goals and all(0 <= goal < len(row) for goal in goals)
            and all(row[goal] == row[place] for goal, place in zip(goals, lies)))


def quarters_of(ladder):
    """For each quarter its place within the levels, its begin and how many places it has."""
    _, marks, _, levels = ladder
    for level in range(len(levels)):
        s = 2 ** (len(levels) - level)
        for k, mark in enumerate(marks):
            for q in range(4):
                yield (level, k, q), mark - s + q * (s // 2), s // 2


def fitting_by_the_words(row, ladder):
    """Whether a ladder that differs from a told one in quarters alone is fitting."""
    return all(fitting_pair(row, ladder[1], begin, many, ladder[3][level][k][q])
               for (level, k, q), begin, many in quarters_of(ladder))


def with_quarter(ladder, at, thing):
    """A copy of the ladder with another thing in one quarter."""
    other = deepcopy(ladder)
    other[3][at[0]][at[1]][at[2]] = thing
    return other


class Fitting(unittest.TestCase):
    """[9.4]"""

    def fits(self, thing, row=ROW):
        self.assertIs(is_fitting(row, thing), True, thing)

    def fails(self, thing, row=ROW):
        self.assertIs(is_fitting(row, thing), False, thing)

    def test_told_ladders(self):
        for row in by_hand.rows_to("ab", 6)[1:] + by_hand.rows_to("abc", 4)[1:]:
            for marks in by_hand.nets_of(row):
                self.fits(ladder_of(row, marks), row)
        for many in LENGTHS:
            for row in ((by_hand.FIBONACCI * 3)[:many], "a" * many, ("aabbaaabbbaaaabbbb" * 4)[:many]):
                for marks in nets_to_try(row):
                    self.fits(ladder_of(row, marks), row)

    def test_another_pair_in_one_quarter(self):
        tried = {True: 0, False: 0}
        for row in ("banana", "abaab", "aaaa", "abababab", "abcabcab"):
            for marks in (list(range(len(row))), leaner(row, list(range(len(row))))):
                ladder = ladder_of(row, marks)
                for at, begin, many in quarters_of(ladder):
                    for k in range(-1, len(marks) + 1):
                        for base in range(-len(row) - many, len(row) + many + 1):
                            want = fitting_pair(row, marks, begin, many, (k, base))
                            kept = ladder[3][at[0]][at[1]][at[2]]
                            ladder[3][at[0]][at[1]][at[2]] = (k, base)
                            self.assertIs(is_fitting(row, ladder), want, (row, ladder))
                            if want:
                                self.assertEqual(row_of(ladder), row)
                                for place in range(len(row)):
                                    self.assertEqual(hops(ladder, place)[-1][1], 0)
                            tried[want] += 1
                            ladder[3][at[0]][at[1]][at[2]] = kept
        self.assertGreater(tried[True], 1000)
        self.assertGreater(tried[False], 1000)

    def test_other_pairs_in_all_quarters_tell_the_row(self):
        told = 0
        for row in ("banana", "abababab", "aaaaaaaaa", "aabaabaab", by_hand.FIBONACCI[:17]):
            for marks in (list(range(len(row))), leaner(row, list(range(len(row)))), list(range(0, len(row), 2))):
                pairs = [(k, base) for base in range(-20, 21) for k in range(len(marks))]
                for turn in (1, -1):
                    levels = [[[None] * 4 for _ in marks] for _ in range((len(row) - 1).bit_length())]
                    ladder = (len(row), marks, "".join(row[mark] for mark in marks), levels)
                    for (level, k, q), begin, many in quarters_of(ladder):
                        right = (pair for pair in pairs[::turn] if fitting_pair(row, marks, begin, many, pair))
                        lies = begin < len(row) and begin + many > 0
                        levels[level][k][q] = next(right, None) if lies else None
                    want = fitting_by_the_words(row, ladder)
                    self.assertIs(is_fitting(row, ladder), want)
                    if want:
                        self.assertEqual(row_of(ladder), row)
                        told += 1
        self.assertGreaterEqual(told, 20)

    def test_marks_need_be_no_net_of_its_own(self):
        # Whether all quarters find marks is what counts: of what is no net, some can't.
        self.fails((2, [0], "a", [[[None, None, (0, 0), (0, 1)]]]), "ab")
        self.fails((2, [0], "a", [[[None, None, (0, 0), (0, 0)]]]), "ab")
        self.fits((2, [0], "a", [[[None, None, (0, 0), (0, 0)]]]), "aa")
        self.fits((1, [0], "a", []), "a")

    def test_other_numbers_of_letters(self):
        told = ladder_of(ROW, MARKS)
        for n in (0, 5, 7, 8, -6, 10 ** 59, True, False, None, "6", "", [6], (6,), [], ()):
            self.fails((n,) + told[1:])
        self.fits((1, [0], "a", []), "a")
        self.fails((True, [0], "a", []), "a")

    def test_other_marks(self):
        told = ladder_of(ROW, MARKS)
        for marks in ([], [0], [0, 1], [1, 2], [0, 1, 2, 3], [0, 1, 3], [0, 2, 1], [2, 1, 0], [0, 0, 1], [0, 1, 1],
                      [-1, 1, 2], [0, 1, 6], [0, 1, 10 ** 59], [0, 1, True], [0, True, 2], [False, 1, 2],
                      [0, 1, None], ["0", 1, 2], [0, 1, "2"], [[0], 1, 2], [0, (1,), 2], [[0, 1, 2]], (0, 1, 2), (),
                      None, "012", "ban", 0, 3):
            self.fails((6, marks) + told[2:])
        self.fails((1, [False], "a", []), "a")
        self.fails((1, [], "", []), "a")
        self.fails((6, [], "", [[], [], []]))

    def test_other_letters(self):
        told = ladder_of(ROW, MARKS)
        for letters in ("", "b", "ba", "bana", "bna", "ben", "Ban", "ban ", " ban", "nab", None, ["b", "a", "n"],
                        ("b", "a", "n"), ["ban"], 0, True, "banana"):
            self.fails((6, MARKS, letters, told[3]))

    def test_a_level_more_or_fewer(self):
        told = ladder_of(ROW, MARKS)
        levels = told[3]
        for other in (levels[:2], levels[1:], levels[:1], [], levels + [levels[2]], [levels[0]] + levels,
                      levels + [[]], levels[::-1], [[]] + levels[1:], tuple(levels), None, "", 0, 3, True,
                      [levels], levels + [None]):
            self.fails(told[:3] + (other,))
        for other in ([[]], [[[None] * 4]], [None], [[[None, None, (0, 0), None]]], None, (), ""):
            self.fails((1, [0], "a", other), "a")

    def test_other_things_for_a_level_or_for_its_quarters(self):
        told = ladder_of(ROW, MARKS)
        for level in range(3):
            right = told[3][level]
            for thing in (None, True, 0, "", "abc", [], (), tuple(right), right[:2], right[1:], right + [right[0]],
                          [None] * 3, [[]] * 3, ["abcd"] * 3, [right]):
                other = deepcopy(told)
                other[3][level] = thing
                self.fails(other)
            for k in range(3):
                for thing in (None, True, 0, "", "abcd", [], (), tuple(right[k]), right[k][:3], right[k][1:],
                              right[k] + [None], right[k] + [right[k][2]], [right[k]], [None] * 4, [[]] * 4):
                    other = deepcopy(told)
                    other[3][level][k] = thing
                    self.fails(other)

    def test_none_where_there_are_places_and_a_pair_where_there_are_none(self):
        told = ladder_of(ROW, MARKS)
        seen = {True: 0, False: 0}
        for at, _, _ in quarters_of(told):
            here = told[3][at[0]][at[1]][at[2]]
            seen[here is None] += 1
            if here is None:
                for pair in ((0, 0), (1, -1), (2, 0), (0, 10 ** 59), (), False, 0, "", [], (None, None)):
                    self.fails(with_quarter(told, at, pair))
            else:
                for pair in (None, (), False, 0, ""):
                    self.fails(with_quarter(told, at, pair))
        self.assertTrue(seen[True] and seen[False])

    def test_a_pair_spoilt(self):
        told = ladder_of(ROW, MARKS)
        for at, _, _ in quarters_of(told):
            here = told[3][at[0]][at[1]][at[2]]
            if here is not None:
                k, base = here
                for pair in ((k, base, 0), (k,), [k, base], (k, base, None), ((k, base),), (k, None), (None, base),
                             (k, str(base)), (str(k), base), (k, [base]), ([k], base), (k, (base,)), "00", k,
                             (k, 10 ** 59), (k, -10 ** 59), (10 ** 59, base), (-10 ** 59, base), (k - 3, base),
                             (-1, base), (3, base), (k, base + 6), (k, base - 6), (k, base, base)):
                    self.fails(with_quarter(told, at, pair))

    def test_a_truth_in_a_numbers_place(self):
        told = ladder_of(ROW, MARKS)
        tried = 0
        for at, _, _ in quarters_of(told):
            here = told[3][at[0]][at[1]][at[2]]
            if here is not None:
                for side in (0, 1):
                    if here[side] in (0, 1):
                        pair = (bool(here[0]), here[1]) if side == 0 else (here[0], bool(here[1]))
                        self.fails(with_quarter(told, at, pair))
                        tried += 1
        self.assertGreater(tried, 30)

    def test_the_ladder_of_another_row(self):
        told = ladder_of(ROW, MARKS)
        for row in ("", "b", "banan", "bananas", "bananb", "canana", "banaan", "bnaana"):
            self.fails(told, row)
        self.fits(told)

    def test_the_row_without_letters_has_none(self):
        for thing in ((0, [], "", []), (0, [0], "", []), (0, [0], "a", []), (1, [0], "a", []), (0, [], "", None),
                      (None, None, None, None), (False, [], "", [])):
            self.fails(thing, "")

    def test_tuples_of_anything(self):
        for thing in ((None,) * 4, ("",) * 4, ([],) * 4, ((),) * 4, (6, 6, 6, 6), (6, MARKS, "ban", None),
                      (6, "ban", MARKS, ladder_of(ROW, MARKS)[3]), (MARKS, 6, "ban", ladder_of(ROW, MARKS)[3]),
                      (True, False, None, "")):
            self.fails(thing)
            self.fails(thing, "a")

    def test_things_within_things(self):
        deep = []
        for _ in range(100000):
            deep = [deep]
        told = ladder_of(ROW, MARKS)
        for k in range(4):
            self.assertIs(is_fitting(ROW, told[:k] + (deep,) + told[k + 1:]), False)
        self.assertIs(is_fitting(ROW, (6, [0, 1, deep]) + told[2:]), False)
        self.assertIs(is_fitting(ROW, with_quarter(told, (0, 0, 2), (0, deep))), False)
        while deep:
            deep = deep.pop()

    def test_what_is_handed_in_stays(self):
        told = ladder_of(ROW, MARKS)
        kept = deepcopy(told)
        is_fitting(ROW, told)
        is_fitting("canana", told)
        self.assertEqual(told, kept)
        wrong = (6, [2, 1, None], "ban", [[], None, ["a"]])
        is_fitting(ROW, wrong)
        self.assertEqual(wrong, (6, [2, 1, None], "ban", [[], None, ["a"]]))

    def test_a_ladder_that_is_changed_later_is_asked_anew(self):
        told = ladder_of(ROW, MARKS)
        self.fits(told)
        told[3][2][0][2] = (1, 0)
        self.fails(told)
        told[3][2][0][2] = (0, 0)
        self.fits(told)


if __name__ == "__main__":
    unittest.main()
