"""What the document promises over the whole program."""

import unittest
from copy import deepcopy
from itertools import combinations, product

import by_hand
from likemarks import errors
from likemarks.back import telling_of
from likemarks.brought import rule_marks
from likemarks.cases import are_cases, cases_for
from likemarks.chains import brood, broods, chain
from likemarks.cuttings import first_cutting, is_cutting, new_stretches
from likemarks.fewest import fewest_net
from likemarks.fitting import is_fitting
from likemarks.floors import are_apart, count_floor
from likemarks.graph import arc_marks, graph_of
from likemarks.heads import cores, heads
from likemarks.keeper import Keeper
from likemarks.ladders import ladder_of, met_places, row_of
from likemarks.made import imaged, joined, merged, mirrored, rounds
from likemarks.nets import is_net, leaner, over, own_words
from likemarks.papers import paper
from likemarks.periods import has_two, standard, two_marks, walk
from likemarks.rings import ring_lacking, ring_of, told_again, turned
from likemarks.rows import counts, places, unlike
from likemarks.rules import firsts, lengths, letters_at
from likemarks.runs import last_place, run_marks
from likemarks.tails import tails
from likemarks.tellings import ends, led, told_row

FAR = 10 ** 59
SMALL = by_hand.rows_to("ab", 6) + by_hand.rows_to("abc", 4) + ["abca", "abcd", "abcab", "aabbc"]
TABLE = {"a": "ab", "b": "bba", "c": "a", "d": "dada"}


class Nets(unittest.TestCase):
    """[0.6]: what is promised to be a net is one, by the document's own words"""

    def good(self, row, marks):
        self.assertEqual(marks, sorted(set(marks)))
        self.assertTrue(by_hand.net(row, marks), (row, marks))
        self.assertIs(is_net(row, marks), True)

    def test_just_where_each_core_and_each_head_stands_over_one(self):
        for row in SMALL:
            some_cores, some_heads = cores(row), heads(row)
            for marks in by_hand.all_marks(row):
                net = by_hand.net(row, marks)
                self.assertIs(is_net(row, marks), net)
                self.assertIs(all(over(row, marks, core) is not None for core in some_cores), net)
                self.assertIs(all(over(row, marks, head) is not None for head in some_heads), net)
                self.assertIs(paper(row, marks) is not None, net)

    def test_ends_of_tellings(self):
        for telling in by_hand.tellings_to(4):
            self.good(told_row(telling), ends(telling))

    def test_ends_of_left_cuttings(self):
        for row in SMALL:
            self.good(row, first_cutting(row))
            for marks in by_hand.all_marks(row):
                if is_cutting(row, marks):
                    self.good(row, marks)
                    self.assertGreaterEqual(len(marks), len(first_cutting(row)))
                    for begin, behind in new_stretches(row):
                        self.assertTrue(any(begin <= mark < behind for mark in marks))

    def test_marks_of_rules(self):
        parts = ["a", "b", 0, 1]
        seconds = [rule for many in (1, 2, 3) for rule in product(parts[:3], repeat=many)]
        for second in seconds:
            for third in product(parts, repeat=2):
                rules = [("a", "b"), second, third]
                row = letters_at(rules, 0, lengths(rules)[-1])
                self.good(row, rule_marks(rules))

    def test_marks_of_runs_and_arcs(self):
        for row in SMALL:
            self.good(row, run_marks(row))
            self.good(row, arc_marks(row))
            self.assertLessEqual(len(arc_marks(row)), len(heads(row)))

    def test_marks_of_made_rows(self):
        nets = [(row, marks) for row in by_hand.rows_to("ab", 3) + ["abc"] for marks in by_hand.nets_of(row)]
        for row, marks in nets:
            self.good(*mirrored(row, marks))
            self.good(*merged(row, marks, {"a": "b", "b": "b", "c": "a"}))
            self.good(*imaged(row, marks, TABLE))
            for other, more in nets:
                self.good(*joined(row, marks, other, more))
            for many in (range(len(row), 9) if row else ()):
                self.good(*rounds(row, marks, many))

    def test_marks_of_rows_with_two_periods(self):
        for row in SMALL:
            for p, q in product(range(1, 8), repeat=2):
                if has_two(row, p, q):
                    self.good(row, two_marks(row, p, q))
        for some in product((1, 2, 3), repeat=2):
            self.good(*standard(list(some)))
        self.good(*standard([]))

    def test_marks_of_rings(self):
        for row in by_hand.rows_to("ab", 4)[1:] + ["abc", "abca"]:
            for marks in by_hand.nets_of(row):
                ring = ring_of(row, marks)
                self.assertIs(ring_lacking(row, ring), None)
                self.good(*told_again(row, ring, 3))
                self.good(*told_again(*turned(row, ring, 2), 4))

    def test_marks_of_a_keeper(self):
        for row in SMALL:
            keeper = Keeper()
            for letter in row:
                keeper.put(letter)
                self.good(keeper.row(), keeper.marks())

    def test_of_made_rows_made_again(self):
        row, marks = standard([1, 2])
        row, marks = imaged(row, marks, {"a": "ab", "b": "b"})
        row, marks = joined(row, marks, *mirrored(row, marks))
        row, marks = rounds(*merged(row, marks, {"a": "c", "b": "a"}), 20)
        row, marks = told_again(*turned(row, ring_of(row, marks), -7), 3)
        self.assertEqual(len(row), 60)
        self.good(row, marks)
        self.assertEqual(told_row(telling_of(row, marks)), row)
        self.assertEqual(row_of(ladder_of(row, marks)), row)


class Back(unittest.TestCase):
    """[0.6]: of each net come a telling and a ladder that tell the row"""

    def test_of_each_net(self):
        for row in SMALL:
            for marks in by_hand.nets_of(row):
                telling = telling_of(row, marks)
                self.assertEqual(told_row(telling), row)
                self.assertEqual([place for place in marks if place not in ends(telling)], [])
                if row:
                    ladder = ladder_of(row, marks)
                    self.assertEqual(row_of(ladder), row)
                    self.assertIs(is_fitting(row, ladder), True)


class Words(unittest.TestCase):
    """[0.6]: a word stands just where it stands over a mark; its places are led to those over ends"""

    def test_of_each_net(self):
        words = by_hand.rows_to("abc", 4)[1:]
        for row in by_hand.rows_to("ab", 5) + ["abc", "abca"]:
            for marks in by_hand.nets_of(row):
                for word in words:
                    self.assertIs(over(row, marks, word) is not None, word in row)
                    if row and len(word) < 3:
                        self.assertIs(met_places(ladder_of(row, marks), word) != [], word in row)

    def test_each_place_is_led_to_one_over_an_end(self):
        for row in by_hand.rows_to("ab", 5) + ["abcab"]:
            for marks in by_hand.nets_of(row):
                telling = telling_of(row, marks)
                for word in by_hand.standing(row):
                    told = broods(telling, word)
                    self.assertEqual(sorted(sum([part for _, part in told], [])), places(row, word))
                    for place, part in told:
                        self.assertIn(place, by_hand.places_of(row, word))
                        for begin in part:
                            self.assertEqual(chain(telling, begin, begin + len(word))[-1], (place, place + len(word)))


class Floors(unittest.TestCase):
    """[0.6]: no net has fewer marks than floors and the told fewest"""

    def test_of_each_net(self):
        for row in SMALL:
            fewest = fewest_net(row)
            many = len(fewest)
            self.assertTrue(by_hand.net(row, fewest))
            self.assertLessEqual(count_floor(row)[0], many)
            for marks in by_hand.nets_of(row):
                self.assertGreaterEqual(len(marks), many)
                self.assertGreaterEqual((len(marks), marks), (many, fewest))
            if row:
                self.assertIs(are_cases(row, many - 1, cases_for(row, many - 1)), True)
            for words in combinations(sorted(cores(row)), many + 1):
                self.assertIs(are_apart(row, list(words)), False)


class Refused(unittest.TestCase):
    """[0.4]"""

    def test_each_is_of_its_own_class_and_made_with_one_text(self):
        full = Keeper()
        for letter in "ab" * 30:
            full.put(letter)
        telling = [("own", "a"), ("like", 0, 4)]
        for error, call, *handed in (
                (errors.NoPlace, chain, telling, 0, 6), (errors.NoPlace, brood, telling, 1, 3),
                (errors.TooMany, fewest_net, "a" * 13), (errors.TooMany, cases_for, "a" * 13, 5),
                (errors.NoPlace, cases_for, "ab", 2), (errors.TooMany, are_cases, "a" * 13, 0, ("a", [])),
                (errors.NoNet, joined, "a", [], "a", [0]), (errors.TooMany, joined, "a" * 31, [0], "a" * 30, [0]),
                (errors.NoNet, rounds, "a", [], 0), (errors.NoLetter, rounds, "", [], -1),
                (errors.NoPlace, rounds, "ab", [0, 1], 1), (errors.TooMany, rounds, "ab", [0, 1], FAR),
                (errors.NoNet, mirrored, "a", []), (errors.NoNet, merged, "a", [], {}),
                (errors.NoLetter, merged, "a", [0], {}), (errors.NoNet, imaged, "a", [], {}),
                (errors.NoLetter, imaged, "a", [0], {}), (errors.TooMany, imaged, "a" * 31, [0], {"a": "aa"}),
                (errors.NoPeriods, two_marks, "ab", 3, 2), (errors.NoPeriods, walk, "ab", 3, 2, 0, 0),
                (errors.NoPlace, walk, "ab", 2, 1, 0, 0), (errors.TooMany, standard, [FAR]),
                (errors.NoLetter, ring_of, "", [0]), (errors.NoNet, ring_of, "a", []),
                (errors.NoNet, told_again, "a", [], 2), (errors.NoPlace, told_again, "a", [0], 2),
                (errors.TooMany, told_again, "a", [0], 61), (errors.NoLetter, turned, "", [], 1),
                (errors.NoLetter, Keeper().take), (errors.NoLetter, full.put, "ab"), (errors.TooMany, full.put, "a")):
            self.assertEqual(error.__bases__, (errors.MarkError,))
            self.assertEqual(errors.MarkError.__bases__, (ValueError,))
            by_hand.raised(self, error, call, *handed)


class Alike(unittest.TestCase):
    """[0.2]"""

    def test_the_same_asked_again_is_told_alike_and_is_the_askers_own(self):
        row, marks = "abaababaab", leaner("abaababaab", list(range(10)))
        telling = telling_of(row, marks)
        rules = [("a", "b"), (0, "a"), (1, 0, 1)]
        calls = [(places, row, "ab"), (unlike, row, 2), (counts, row), (leaner, row, marks), (own_words, row, marks),
                 (heads, row), (cores, row), (paper, row, marks), (telling_of, row, marks), (led, telling, 7),
                 (ends, telling), (first_cutting, row), (new_stretches, row), (lengths, rules), (firsts, rules),
                 (rule_marks, rules), (tails, row), (run_marks, row), (graph_of, row), (arc_marks, row),
                 (ladder_of, row, marks), (chain, telling, 0, 2), (broods, telling, "ab"), (fewest_net, row),
                 (cases_for, row, 1), (joined, row, marks, row, marks), (rounds, row, marks, 10),
                 (mirrored, row, marks), (merged, row, marks, TABLE), (imaged, row, marks, TABLE), (standard, [1, 1]),
                 (ring_of, row, marks), (told_again, row, ring_of(row, marks), 3), (turned, row, marks, 0)]
        handed = deepcopy([entry[1:] for entry in calls])
        first = [call(*things) for call, *things in calls]
        kept = deepcopy(first)
        again = [call(*things) for call, *things in calls]
        by_hand.all_one_each(self, marks, telling, rules, *first, *again)
        for thing in by_hand.lists_within(first):
            thing.clear()
        self.assertEqual(again, kept)
        self.assertEqual([call(*things) for call, *things in calls], kept)
        self.assertEqual([entry[1:] for entry in calls], handed)

    def test_last_places_lie_over_marks_of_runs(self):
        for row in SMALL:
            for word in by_hand.standing(row):
                place = last_place(row, word)
                self.assertTrue(by_hand.stands_over(row, run_marks(row), word, place))


if __name__ == "__main__":
    unittest.main()
