import unittest

import by_hand
from likemarks.brought import brought, rule_marks
from likemarks.errors import NoPlace
from likemarks.rules import firsts, lengths, letters_at
from test_rules import GREAT, MIXED, RULES, small_rules, standing_at, unrolled


def first_of(rules):
    """The first place of each rule that is unrolled in the row."""
    found = {}
    for number, place in standing_at(rules, len(rules) - 1, 0):
        found[number] = min(place, found.get(number, place))
    return found


def marks_by_the_words(rules):
    texts = unrolled(rules)
    row = texts[-1]
    marks = {row.index(letter) for letter in row}
    for number, place in first_of(rules).items():
        for part in rules[number][:-1]:
            place += 1 if isinstance(part, str) else len(texts[part])
            marks.add(place - 1)
    return sorted(marks)


def brought_by_the_words(rules, begin, behind):
    """Down from the last rule, counted from the begin of each rule that is come to."""
    texts, number = unrolled(rules), len(rules) - 1
    while True:
        at = 0
        for part in rules[number]:
            many = 1 if isinstance(part, str) else len(texts[part])
            if at <= begin < at + many:
                break
            at += many
        if behind > at + many:
            place = first_of(rules)[number]
            return (place + begin, place + at + many - 1)
        if isinstance(part, str):
            return (texts[-1].index(part),) * 2
        number, begin, behind = part, begin - at, behind - at


class RuleMarks(unittest.TestCase):
    """[6.3]"""

    def test_ordinary_rules(self):
        self.assertEqual(rule_marks([("a",)]), [0])
        self.assertEqual(rule_marks([("a", "b", "a")]), [0, 1])
        # Letters at 0, 1 and 4; within "ab" 0, within "ababc" 1 and 3, within the row 4 and 6.
        self.assertEqual(rule_marks(RULES), [0, 1, 3, 4, 6])

    def test_a_rule_that_is_not_unrolled_has_none(self):
        self.assertEqual(rule_marks([("a", "a", "a"), ("b",)]), [0])
        self.assertEqual(rule_marks([("b", "c", "d", "e"), ("a", "a", "a", "a")]), [0, 1, 2])
        self.assertEqual(rule_marks([("a",), (0, 0, 0, 0, 0), ("b", 0)]), [0, 1])

    def test_the_first_place_of_a_letter_within_a_rule(self):
        # The letter "a" comes first by the second rule, "b" by the first one.
        self.assertEqual(rule_marks([("a", "b"), ("a", 0)]), [0, 1, 2])
        self.assertEqual(rule_marks([("b", "a"), (0, 0, "a")]), [0, 1, 3])

    def test_small_rules(self):
        for rules in small_rules():
            marks = rule_marks(rules)
            self.assertEqual(marks, marks_by_the_words(rules), rules)
            self.assertTrue(by_hand.net(unrolled(rules)[-1], marks), rules)

    def test_forty_rules(self):
        marks = rule_marks(GREAT)
        self.assertEqual(marks[:9], [0, 1, 2, 3, 4, 5, 6, 7, 15])
        self.assertEqual(marks[-7:], [8 ** 39 * k - 1 for k in range(1, 8)])
        self.assertEqual(marks, sorted(set(marks)))
        self.assertEqual(len(marks), 7 * 40)


class Brought(unittest.TestCase):
    """[6.3]"""

    def test_ordinary_rules(self):
        # ababc | ab | ababc
        self.assertEqual(brought(RULES, 0, 12), (0, 4))
        self.assertEqual(brought(RULES, 3, 6), (3, 4))
        self.assertEqual(brought(RULES, 5, 7), (0, 0))
        self.assertEqual(brought(RULES, 6, 9), (6, 6))
        self.assertEqual(brought(RULES, 7, 12), (0, 1))
        self.assertEqual(brought(RULES, 9, 12), (2, 3))

    def test_a_letter_is_told_twice(self):
        self.assertEqual(brought([("a",)], 0, 1), (0, 0))
        for place in range(12):
            at = "ababcabababc".index("ababcabababc"[place])
            self.assertEqual(brought(RULES, place, place + 1), (at, at))

    def test_the_part_in_which_it_begins_gives_the_mark(self):
        self.assertEqual(brought([tuple("abcdefgh")], 2, 7), (2, 2))
        self.assertEqual(brought([("a", "b"), (0, 0, 0, 0)], 1, 8), (1, 1))
        self.assertEqual(brought([("a", "b"), (0, 0, 0, 0)], 3, 8), (3, 3))
        self.assertEqual(brought([("a", "b"), (0, 0, 0, 0)], 2, 8), (2, 3))

    def test_rules_of_one_part_are_gone_through(self):
        self.assertEqual(brought([("a", "b"), (0,), (1, 1), (2,)], 2, 4), (0, 0))
        self.assertEqual(brought([("a", "b"), (0,), ("c", 1), (2,)], 1, 3), (1, 1))
        self.assertEqual(brought([("a",)] + [(k,) for k in range(39)], 0, 1), (0, 0))

    def test_all_stretches_of_small_rules(self):
        for rules in small_rules():
            row, marks = unrolled(rules)[-1], rule_marks(rules)
            for begin in range(len(row)):
                for behind in range(begin + 1, len(row) + 1):
                    told = brought(rules, begin, behind)
                    place, mark = told
                    self.assertIs(type(told), tuple)
                    self.assertEqual(told, brought_by_the_words(rules, begin, behind))
                    self.assertEqual(row[place:place + behind - begin], row[begin:behind])
                    self.assertTrue(place <= mark < place + behind - begin)
                    self.assertIn(mark, marks)

    def test_stretches_of_great_rows(self):
        for rules in (GREAT, MIXED, [("a", "b"), ("b",)] + [(k, k + 1, k) for k in range(38)]):
            many, marks = lengths(rules)[-1], rule_marks(rules)
            begins = [0, 1, 7, many // 2 - 3, many // 2, many // 3, many - 301, many - 300, many // 7 * 5]
            for begin in begins:
                for long in (1, 2, 3, 8, 9, 64, 299, 300):
                    place, mark = brought(rules, begin, begin + long)
                    self.assertEqual(letters_at(rules, place, long), letters_at(rules, begin, long))
                    self.assertTrue(place <= mark < place + long)
                    self.assertIn(mark, marks)

    def test_the_whole_of_a_great_row_and_parts_of_it(self):
        for k in range(1, 40):
            self.assertEqual(brought(GREAT, 8 ** 40 - 8 ** k, 8 ** 40), (0, 8 ** (k - 1) - 1))
            self.assertEqual(brought(GREAT, 8 ** k - 1, 8 ** 40), (8 ** k - 1, 8 ** 39 - 1))
        self.assertEqual(brought(GREAT, 0, 8 ** 40), (0, 8 ** 39 - 1))
        self.assertEqual(brought(GREAT, 8 ** 40 - 3, 8 ** 40), (5, 5))
        # b's, two x's at 39, and an a: the first places of the letters of the other great row.
        for letter, at in (("b", 0), ("x", 39), ("a", 41)):
            place = 10 ** 6 + letters_at(MIXED, 10 ** 6, 300).index(letter)
            self.assertEqual(brought(MIXED, place, place + 1), (at, at))

    def test_a_rule_whose_first_place_is_within_another_one(self):
        rules = [("a", "b"), ("c", 0, 0), (1, "d", 0, 1, 0)]
        self.assertEqual(firsts(rules), [1, 0, 0])
        # cabab | d | ab | cabab | ab
        self.assertEqual(brought(rules, 6, 8), (1, 1))
        self.assertEqual(brought(rules, 9, 12), (1, 2))
        self.assertEqual(brought(rules, 13, 15), (1, 1))
        self.assertEqual(brought(rules, 12, 15), (12, 12))

    def test_no_place(self):
        for begin, behind in ((0, 0), (3, 3), (12, 12), (4, 3), (5, 0), (-1, 1), (-1, 0), (-3, -1), (0, 13), (11, 13),
                              (12, 13), (0, -1), (10 ** 59, 10 ** 59 + 1), (-10 ** 59, 1), (0, 10 ** 59),
                              (1, -10 ** 59)):
            by_hand.raised(self, NoPlace, brought, RULES, begin, behind)
        for begin, behind in ((0, 8 ** 40 + 1), (8 ** 40, 8 ** 40 + 1), (8 ** 39, 8 ** 39), (-1, 8 ** 40)):
            by_hand.raised(self, NoPlace, brought, GREAT, begin, behind)


class Told(unittest.TestCase):
    """[0.2]"""

    def test_what_is_handed_in_stays(self):
        rules = list(RULES)
        rule_marks(rules)
        brought(rules, 3, 6)
        by_hand.raised(self, NoPlace, brought, rules, 3, 3)
        self.assertEqual(rules, RULES)

    def test_a_told_list_is_the_askers_own(self):
        kept = list(rule_marks(RULES))
        rule_marks(RULES).clear()
        rule_marks(RULES)[0] = 7
        self.assertEqual(rule_marks(RULES), kept)
        self.assertEqual(brought(RULES, 3, 6), (3, 4))


if __name__ == "__main__":
    unittest.main()
