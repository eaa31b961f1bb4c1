import unittest
from itertools import product
from unittest.mock import ANY

import by_hand
from likemarks.brought import brought, rule_marks
from likemarks.errors import NoPlace, NoRules
from likemarks.rules import firsts, lengths, letters_at

# "ab", "ababc", "ababcabababc"; the third rule stands nowhere in the last one.
RULES = [("a", "b"), (0, 0, "c"), ("z", 1), (1, 0, 1)]
# The row of the last one has 8 ** 39 * 8 letters.
GREAT = [tuple("abcaabca")] + [(k,) * 8 for k in range(39)]
MIXED = [("x",)] + [("b", k, k, "a") for k in range(39)]


def unrolled(rules):
    """The text of each rule."""
    texts = []
    for rule in rules:
        texts.append("".join(part if isinstance(part, str) else texts[part] for part in rule))
    return texts


def standing_at(rules, number, place):
    """All (number of a rule, place) at which rules are unrolled in this one unrolled at the place."""
    texts, found = unrolled(rules), [(number, place)]
    for part in rules[number]:
        if isinstance(part, str):
            place += 1
        else:
            found += standing_at(rules, part, place)
            place += len(texts[part])
    return found


def small_rules():
    """All lists of up to three rules of up to two or three parts, of two letters."""
    first = [rule for many in (1, 2) for rule in product("ab", repeat=many)]
    second = [rule for many in (1, 2) for rule in product(("a", "b", 0), repeat=many)]
    third = [rule for many in (1, 2, 3) for rule in product(("a", 0, 1), repeat=many)]
    for rules in [(one,) for one in first] + list(product(first, second)) + list(product(first, second, third)):
        yield list(rules)


class Lengths(unittest.TestCase):
    """[6.1], [6.2]"""

    def test_ordinary_rules(self):
        self.assertEqual(lengths(RULES), [2, 5, 6, 12])
        self.assertEqual(lengths([("a",)]), [1])
        self.assertEqual(lengths([("a",), (0,), (1,)]), [1, 1, 1])
        self.assertEqual(lengths([tuple("abcdefgh")]), [8])

    def test_small_rules(self):
        for rules in small_rules():
            self.assertEqual(lengths(rules), [len(text) for text in unrolled(rules)])

    def test_forty_rules(self):
        self.assertEqual(lengths(GREAT), [8 ** k for k in range(1, 41)])
        self.assertEqual(lengths([("a",)] + [(k,) for k in range(39)]), [1] * 40)
        self.assertEqual(lengths([("a",)] + [(0, k) for k in range(39)]), list(range(1, 41)))


class LettersAt(unittest.TestCase):
    """[6.2]"""

    def test_ordinary_rules(self):
        self.assertEqual(letters_at(RULES, 0, 12), "ababcabababc")
        self.assertEqual(letters_at(RULES, 4, 4), "caba")
        self.assertEqual(letters_at(RULES, 11, 1), "c")
        self.assertEqual(letters_at([("q",)], 0, 1), "q")

    def test_small_rules(self):
        for rules in small_rules():
            row = unrolled(rules)[-1]
            for place in range(len(row)):
                for many in range(1, len(row) - place + 1):
                    self.assertEqual(letters_at(rules, place, many), row[place:place + many])

    def test_a_great_row(self):
        last = 8 ** 40 - 1
        for place in (0, 3, 8 ** 20 - 5, 8 ** 39 * 5 - 7, 8 ** 39 + 8 ** 17 + 3, last - 299):
            want = "".join("abcaabca"[(place + k) % 8] for k in range(300))
            self.assertEqual(letters_at(GREAT, place, 300), want)
            self.assertEqual(letters_at(GREAT, place, 1), want[0])
        self.assertEqual(letters_at(GREAT, last, 1), "a")
        self.assertEqual(letters_at(MIXED, 0, 41), "b" * 39 + "xx")
        many = 3 * 2 ** 39 - 2
        self.assertEqual(lengths(MIXED)[-1], many)
        self.assertEqual(letters_at(MIXED, many - 41, 41), "xx" + "a" * 39)
        self.assertEqual(letters_at(MIXED, many // 2 - 3, 6), "aaabbb")

    def test_three_hundred_and_a_row_of_just_so_many(self):
        rules = [("a", "b", "c"), (0,) * 4, (1,) * 5, (2,) * 5]
        self.assertEqual(lengths(rules)[-1], 300)
        self.assertEqual(letters_at(rules, 0, 300), "abc" * 100)
        for place, many in ((0, 301), (1, 300), (299, 2), (300, 1)):
            by_hand.raised(self, NoPlace, letters_at, rules, place, many)
        self.assertEqual(letters_at(rules, 299, 1), "c")

    def test_no_place(self):
        for place, many in ((0, 0), (3, 0), (12, 0), (0, -1), (5, -3), (-1, 1), (-1, 2), (-12, 3), (0, 13), (1, 12),
                            (11, 2), (12, 1), (13, 1), (10 ** 59, 1), (-10 ** 59, 1), (0, 10 ** 59), (0, -10 ** 59)):
            by_hand.raised(self, NoPlace, letters_at, RULES, place, many)

    def test_no_place_of_a_great_row(self):
        for place, many in ((0, 301), (0, 0), (-1, 300), (8 ** 40 - 299, 300), (8 ** 40, 1), (0, 8 ** 40)):
            by_hand.raised(self, NoPlace, letters_at, GREAT, place, many)


class Firsts(unittest.TestCase):
    """[6.2]"""

    def test_ordinary_rules(self):
        self.assertEqual(firsts(RULES), [0, 0, None, 0])
        self.assertEqual(firsts([("a", "b"), ("c", 0), (1, 0)]), [1, 0, 0])
        self.assertEqual(firsts([("a",)]), [0])

    def test_the_least_place_is_not_that_of_the_first_rule_gone_through(self):
        self.assertEqual(firsts([("a",), ("b", 0), (0, 1)]), [0, 1, 0])
        self.assertEqual(firsts([("a",), ("b", 0), ("b", 1, 0)]), [2, 1, 0])

    def test_none_where_a_rule_is_not_unrolled(self):
        self.assertEqual(firsts([("a",), ("b",)]), [None, 0])
        # The first rule is a part of the second one alone, which is none of the row's.
        self.assertEqual(firsts([("a",), (0, 0), ("b", "c")]), [None, None, 0])
        self.assertEqual(firsts([("a",), (0, 0), ("b", 0)]), [1, None, 0])

    def test_small_rules(self):
        for rules in small_rules():
            found = {}
            for number, place in standing_at(rules, len(rules) - 1, 0):
                found[number] = min(place, found.get(number, place))
            self.assertEqual(firsts(rules), [found.get(number) for number in range(len(rules))])

    def test_forty_rules(self):
        self.assertEqual(firsts(GREAT), [0] * 40)
        self.assertEqual(firsts(MIXED), list(range(39, -1, -1)))
        late = [("a",)] + [("b",) * 7 + (k,) for k in range(38)] + [(37,) * 7 + (38,)]
        self.assertEqual(firsts(late)[-3:], [0, 7 * lengths(late)[37], 0])


CALLS = (("lengths", lambda rules: lengths(rules)), ("firsts", lambda rules: firsts(rules)),
         ("letters_at", lambda rules: letters_at(rules, 0, 1)), ("rule_marks", lambda rules: rule_marks(rules)),
         ("brought", lambda rules: brought(rules, 0, 1)),
         ("letters_at where no place is", lambda rules: letters_at(rules, -1, 301)),
         ("letters_at of none", lambda rules: letters_at(rules, 0, 0)),
         ("brought where no place is", lambda rules: brought(rules, 10 ** 59, -1)))


class NoSuchRules(unittest.TestCase):
    """[6.1]: NoRules of what is no such list, of a list of tuples of anything, ahead of NoPlace"""

    def refused(self, *lists):
        for rules in lists:
            for name, call in CALLS:
                with self.subTest(rules=rules[:3], call=name):
                    by_hand.raised(self, NoRules, call, rules)

    def test_no_rules(self):
        self.refused([])

    def test_more_than_forty(self):
        self.assertEqual(lengths([("a",)] * 40), [1] * 40)
        self.assertEqual(rule_marks([("a",)] * 40), [0])
        self.refused([("a",)] * 41, [("a",)] * 100000)

    def test_a_rule_without_parts(self):
        self.refused([()], [("a",), ()], [(), ("a",)], [("a",), (), (0,)])

    def test_a_rule_of_nine_parts(self):
        self.assertEqual(lengths([("a",) * 8, (0,) * 8]), [8, 64])
        self.refused([("a",) * 9], [("a",), (0,) * 9], [("a",) * 9, ("a",)], [("a",) * 100000])

    def test_a_number_of_no_rule_ahead(self):
        self.assertEqual(lengths([("a",), (0, 0), (0, 1)]), [1, 2, 3])
        self.refused([(0,)], [("a", 0)], [("a",), (1,)], [("a",), (2,), (0,)], [("a",), (0, 2)], [("a",), ("a", -1)],
                     [("a",), (-2,)], [("a",), (10 ** 59,)], [("a",), (-10 ** 59,)], [(1,), ("a",)],
                     [("a",), (0,), (0, 1, 2)])

    def test_a_text_that_is_no_letter(self):
        for sign in ("", "ab", "abc", "A", "Z", " ", "1", "0", ".", "`", "{", "\n", "a\n", "a ", "xyz",
                     "abcdefghijklmnopqrstuvwxyz"):
            self.refused([(sign,)], [("a",), (0, sign)], [("a", sign)])

    def test_a_truth_is_no_number(self):
        self.refused([("a",), (False,)], [("a",), ("b",), (True,)], [(True,)], [(False,)],
                     [("a",), (0, False)])

    def test_things_of_other_kinds(self):
        for thing in (None, [], ["a"], [0], (), ("a",), (0,), {}, {"a": 0}, {0}, b"a", b"", object(), lengths, int,
                      [[["a"]]], ANY):
            self.refused([(thing,)], [("a",), (0, thing)], [("a",), (thing, "b")])

    def test_a_part_beyond_that_of_a_rule_that_is_not_unrolled(self):
        self.refused([("a", 5), ("b",)], [("",), ("b",)], [(None,), ("b",)])

    def test_rules_that_are_no_tuples(self):
        for thing in (None, "a", ["a"], 0, {"a": 0}):
            self.refused([thing], [("a",), thing])
        for call in CALLS:
            for thing in ((("a",),), {("a",): 1}, None, "a", ()):
                by_hand.raised(self, NoRules, call[1], thing)


class Told(unittest.TestCase):
    """[0.2]"""

    def test_what_is_handed_in_stays(self):
        rules = list(RULES)
        for _, call in CALLS[:5]:
            call(rules)
        letters_at(rules, 3, 7)
        by_hand.raised(self, NoPlace, letters_at, rules, 3, 0)
        self.assertEqual(rules, RULES)
        wrong = [("a",), (0, "B"), [1], None]
        by_hand.raised(self, NoRules, lengths, wrong)
        self.assertEqual(wrong, [("a",), (0, "B"), [1], None])

    def test_a_told_list_is_the_askers_own(self):
        for call in (lengths, firsts):
            kept = list(call(RULES))
            call(RULES).clear()
            call(RULES)[0] = 7
            self.assertEqual(call(RULES), kept)

    def test_a_list_that_is_changed_later_is_asked_anew(self):
        rules = list(RULES)
        self.assertEqual(lengths(rules), [2, 5, 6, 12])
        rules.pop()
        self.assertEqual(lengths(rules), [2, 5, 6])
        self.assertEqual(firsts(rules), [1, 1, 0])
        self.assertEqual(letters_at(rules, 0, 6), "zababc")


if __name__ == "__main__":
    unittest.main()
