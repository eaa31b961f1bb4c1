import unittest
from itertools import product

import by_hand
from likemarks.errors import NoPlace, NoTelling
from likemarks.tellings import ends, led, told_row

A, B = ("own", "a"), ("own", "b")


class ToldRow(unittest.TestCase):
    """[4.1], [4.2]"""

    def test_own_pieces(self):
        self.assertEqual(told_row([]), "")
        self.assertEqual(told_row([A]), "a")
        self.assertEqual(told_row([B, A, ("own", "z")]), "baz")

    def test_like_pieces_led_ahead(self):
        self.assertEqual(told_row([A, B, ("like", 0, 2)]), "abab")
        self.assertEqual(told_row([A, B, ("like", 1, 1), ("like", 0, 3)]), "abbabb")

    def test_like_pieces_led_behind(self):
        self.assertEqual(told_row([("like", 2, 2), A, B]), "abab")
        self.assertEqual(told_row([("like", 1, 1), ("like", 3, 2), B, A]), "bbaba")

    def test_like_pieces_led_into_themselves(self):
        self.assertEqual(told_row([A, ("like", 0, 5)]), "aaaaaa")
        self.assertEqual(told_row([A, B, ("like", 0, 5)]), "abababa")
        self.assertEqual(told_row([("like", 1, 5), A]), "aaaaaa")
        self.assertEqual(told_row([("like", 2, 5), A, B]), "bababab")
        self.assertEqual(told_row([A, ("like", 0, 59)]), "a" * 60)

    def test_all_small_ones(self):
        pieces = [A, B] + [("like", place, many) for place in range(-1, 5) for many in (1, 2, 3)]
        for long in range(4):
            for telling in product(pieces, repeat=long):
                row = by_hand.row_told(telling)
                if row is None:
                    by_hand.raised(self, NoTelling, told_row, list(telling))
                else:
                    self.assertEqual(told_row(list(telling)), row, telling)


class NoTellings(unittest.TestCase):
    """[4.2]: NoTelling, of any list of tuples of texts and numbers"""

    def refused(self, *tellings):
        for telling in tellings:
            with self.subTest(telling=telling[:3]):
                by_hand.raised(self, NoTelling, told_row, telling)

    def test_a_wrong_word(self):
        for word in ("", "Own", "owns", "own ", "likes", "Like", "a", 0, 1, -1, "ownlike"):
            self.refused([(word, "a")], [A, (word, "a")], [A, (word, 0, 1)], [(word,), A])

    def test_no_letter_or_several(self):
        for letter in ("", "ab", "abc", "A", "Z", " ", "1", ".", "`", "{", "a\n", "\n", 0, 1, 97,
                       "abcdefghijklmnopqrstuvwxyz"):
            self.refused([("own", letter)], [A, ("own", letter)])

    def test_tuples_of_other_lengths(self):
        for piece in ((), ("own",), ("like",), ("own", "a", 1), ("own", "a", "b"), ("like", 0),
                      ("like", 0, 1, 1), ("own", 0, 1), ("like", "a"), (0,), (0, 1), ("a",),
                      ("own", "a") * 1000, tuple(range(1000))):
            self.refused([piece], [A, piece], [A, A, piece])

    def test_texts_for_numbers(self):
        self.refused([A, ("like", "0", 1)], [A, ("like", 0, "1")], [A, ("like", "a", "a")],
                     [A, ("like", 0, "")])

    def test_truths_are_no_numbers(self):
        self.refused([A, ("like", False, 1)], [A, ("like", 0, True)], [A, A, ("like", True, 1)])

    def test_no_letters_in_a_like_piece(self):
        for many in (0, -1, -5, -10 ** 59):
            self.refused([A, ("like", 0, many)], [A, A, A, ("like", 1, many)], [A, ("like", 0, many), A])

    def test_more_than_sixty_letters(self):
        self.assertEqual(told_row([A] * 60), "a" * 60)
        self.assertEqual(told_row([A] * 30 + [("like", 0, 30)]), "a" * 60)
        self.refused([A] * 61, [A] * 100000, [A, ("like", 0, 60)], [A] * 60 + [("like", 0, 1)],
                     [A] * 31 + [("like", 0, 30)], [A, ("like", 0, 10 ** 59)],
                     [A, ("like", 0, 10 ** 59), ("like", 0, -10 ** 59)],
                     [("like", 0, 1)] * 100000, [(0, 1)] * 100000)

    def test_places_beyond_the_row(self):
        self.refused([A, ("like", 2, 1)], [A, ("like", 1, 2)], [A, ("like", 5, 1)],
                     [A, ("like", 10 ** 59, 1)], [A, ("like", 0, 2), ("like", 4, 2)],
                     [("like", 1, 2), A, ("like", 3, 2)], [("like", 0, 1)])

    def test_places_below_the_first(self):
        self.refused([A, ("like", -1, 1)], [A, ("like", -2, 1)], [A, B, ("like", -1, 2)],
                     [A, ("like", -10 ** 59, 1)])

    def test_led_to_itself(self):
        self.refused([("like", 0, 1)], [A, ("like", 1, 1)], [A, ("like", 1, 3)],
                     [A, ("like", 2, 1), ("like", 2, 1)], [("like", 0, 2), A])

    def test_led_round(self):
        self.refused([("like", 1, 1), ("like", 0, 1)], [A, ("like", 2, 1), ("like", 1, 1)],
                     [("like", 1, 1), ("like", 2, 1), ("like", 0, 1), B],
                     [("like", 2, 2), ("like", 0, 2)], [("like", 1, 1), ("like", 2, 1), ("like", 1, 1)])

    def test_a_long_ring_and_a_long_way(self):
        ring = [("like", place, 1) for place in range(1, 60)]
        self.refused(ring + [("like", 0, 1)])
        self.assertEqual(told_row(ring + [A]), "a" * 60)

    def test_pieces_of_other_kinds(self):
        for piece in (None, "own", 1, ["own", "a"]):
            self.refused([piece], [A, piece])

    def test_things_that_are_no_lists(self):
        for thing in ((), (A, B), "", None):
            by_hand.raised(self, NoTelling, told_row, thing)


class Led(unittest.TestCase):
    """[4.2]"""

    def test_an_own_place(self):
        self.assertEqual(led([A], 0), [0])
        self.assertEqual(led([A, B, ("like", 0, 2)], 1), [1])

    def test_ways(self):
        telling = [("like", 3, 1), A, B, ("like", 4, 1), ("like", 1, 3)]
        self.assertEqual(told_row(telling), "aabaaba")
        ways = [[0, 3, 4, 1], [1], [2], [3, 4, 1], [4, 1], [5, 2], [6, 3, 4, 1]]
        self.assertEqual([led(telling, place) for place in range(7)], ways)

    def test_ways_within_a_piece(self):
        self.assertEqual(led([A, B, ("like", 0, 5)], 6), [6, 4, 2, 0])
        self.assertEqual(led([("like", 2, 5), A, B], 0), [0, 2, 4, 6])
        self.assertEqual(led([A, ("like", 0, 59)], 59), list(range(59, -1, -1)))
        self.assertEqual(led([("like", 1, 59), A], 0), list(range(60)))

    def test_no_place(self):
        telling = [A, ("like", 0, 3)]
        for place in (-1, -4, 4, 5, 60, 10 ** 59, -10 ** 59):
            by_hand.raised(self, NoPlace, led, telling, place)
        for place in (0, -1, 1):
            by_hand.raised(self, NoPlace, led, [], place)


class Ends(unittest.TestCase):
    """[4.2]"""

    def test_last_places_rising(self):
        self.assertEqual(ends([]), [])
        self.assertEqual(ends([A]), [0])
        self.assertEqual(ends([A, B, ("like", 0, 5), A]), [0, 1, 6, 7])
        self.assertEqual(ends([("like", 2, 2), A, B]), [1, 2, 3])
        self.assertEqual(ends([A, ("like", 0, 59)]), [0, 59])

    def test_they_are_a_net(self):
        pieces = [A, B] + [("like", place, many) for place in range(5) for many in (1, 2, 3)]
        for telling in product(pieces, repeat=3):
            row = by_hand.row_told(telling)
            if row is not None:
                self.assertTrue(by_hand.net(row, ends(list(telling))), telling)


class Told(unittest.TestCase):
    """[0.2]"""

    def test_what_is_handed_in_stays(self):
        telling = [A, B, ("like", 0, 5)]
        told_row(telling)
        led(telling, 6)
        ends(telling)
        self.assertEqual(telling, [A, B, ("like", 0, 5)])
        wrong = [A, ("like", 7, 1)]
        by_hand.raised(self, NoTelling, told_row, wrong)
        by_hand.raised(self, NoPlace, led, telling, 7)
        self.assertEqual((wrong, telling), ([A, ("like", 7, 1)], [A, B, ("like", 0, 5)]))

    def test_a_told_list_is_the_askers_own(self):
        telling = [A, B, ("like", 0, 5)]
        led(telling, 6).clear()
        ends(telling).clear()
        self.assertEqual(led(telling, 6), [6, 4, 2, 0])
        self.assertEqual(ends(telling), [0, 1, 6])


if __name__ == "__main__":
    unittest.main()
