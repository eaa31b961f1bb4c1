import unittest
from copy import deepcopy

import by_hand
from likemarks.back import telling_of
from likemarks.chains import brood, broods, chain
from likemarks.errors import NoPlace
from likemarks.nets import leaner

A, B = ("own", "a"), ("own", "b")
ROUND = [A, B, ("like", 0, 5)]                              # abababa, ends 0, 1, 6
BEHIND = [("like", 2, 5), A, B]                             # bababab, ends 4, 5, 6
MIXED = [("like", 3, 3), A, B, ("like", 0, 1), ("like", 3, 4)]  # abaabaabaa
LONG = [A, ("like", 0, 59)]                                 # sixty times a
LONG_BACK = [("like", 1, 59), A]


def ends_of(telling):
    """The last places of all pieces."""
    sizes = [1 if piece[0] == "own" else piece[2] for piece in telling]
    return [sum(sizes[:k + 1]) - 1 for k in range(len(sizes))]


def holds_end(telling, begin, behind):
    return any(begin <= end < behind for end in ends_of(telling))


def chain_by_the_words(telling, begin, behind):
    """Each place is led on until the stretch holds an end; it must stay one stretch."""
    goals = by_hand.goals_of(telling)
    places = list(range(begin, behind))
    found = [(begin, behind)]
    while not holds_end(telling, places[0], places[-1] + 1):
        places = [goals[place] for place in places]
        assert places == list(range(places[0], places[0] + behind - begin))
        found.append((places[0], places[-1] + 1))
    return found


def brood_by_the_words(telling, begin, behind):
    """The begins of all stretches with as many letters whose chain ends with this one."""
    many = len(by_hand.goals_of(telling))
    starts = range(many - (behind - begin) + 1)
    return [start for start in starts
            if chain_by_the_words(telling, start, start + behind - begin)[-1] == (begin, behind)]


def broods_by_the_words(telling, word):
    row = by_hand.row_told(telling)
    return [(place, brood_by_the_words(telling, place, place + len(word)))
            for place in by_hand.places_of(row, word)
            if holds_end(telling, place, place + len(word))]


def long_tellings():
    """Tellings of sixty letters and of some fewer, some made of nets."""
    rows = by_hand.LONG_ROWS
    return [LONG, LONG_BACK, ROUND, BEHIND, MIXED] + [
        telling_of(row, leaner(row, list(range(len(row))))) for row in rows]


class Chain(unittest.TestCase):
    """[10.1]"""

    def test_a_stretch_that_holds_an_end_is_its_own_chain(self):
        self.assertEqual(chain([A], 0, 1), [(0, 1)])
        self.assertEqual(chain(ROUND, 0, 1), [(0, 1)])
        self.assertEqual(chain(ROUND, 0, 7), [(0, 7)])
        self.assertEqual(chain(ROUND, 2, 7), [(2, 7)])
        self.assertEqual(chain(ROUND, 6, 7), [(6, 7)])

    def test_led_into_the_same_piece(self):
        self.assertEqual(chain(ROUND, 4, 6), [(4, 6), (2, 4), (0, 2)])
        self.assertEqual(chain(ROUND, 5, 6), [(5, 6), (3, 4), (1, 2)])
        self.assertEqual(chain(ROUND, 2, 6), [(2, 6), (0, 4)])
        self.assertEqual(chain(BEHIND, 0, 2), [(0, 2), (2, 4), (4, 6)])
        self.assertEqual(chain(BEHIND, 0, 1), [(0, 1), (2, 3), (4, 5)])

    def test_led_ahead_and_behind(self):
        self.assertEqual(by_hand.row_told(MIXED), "abaabaabaa")
        self.assertEqual(chain(MIXED, 0, 2), [(0, 2), (3, 5)])
        self.assertEqual(chain(MIXED, 6, 8), [(6, 8), (3, 5)])
        self.assertEqual(chain(MIXED, 8, 9), [(8, 9), (5, 6)])

    def test_a_long_chain(self):
        self.assertEqual(chain(LONG, 58, 59), [(k, k + 1) for k in range(58, -1, -1)])
        self.assertEqual(chain(LONG, 59, 60), [(59, 60)])
        self.assertEqual(chain(LONG, 1, 59), [(1, 59), (0, 58)])
        self.assertEqual(chain(LONG_BACK, 0, 1), [(k, k + 1) for k in range(59)])

    def test_all_stretches_of_small_rows(self):
        for telling in by_hand.tellings_to(4):
            for begin, behind in by_hand.stretches(len(by_hand.row_told(telling))):
                told = chain(telling, begin, behind)
                self.assertEqual(told, chain_by_the_words(telling, begin, behind), (telling, begin, behind))

    def test_all_stretches_of_long_rows(self):
        for telling in long_tellings():
            row = by_hand.row_told(telling)
            for begin, behind in by_hand.stretches(len(row)):
                told = chain(telling, begin, behind)
                self.assertEqual(told, chain_by_the_words(telling, begin, behind))
                self.assertEqual({row[i:j] for i, j in told}, {row[begin:behind]})
                self.assertEqual([holds_end(telling, i, j) for i, j in told], [False] * (len(told) - 1) + [True])


class Brood(unittest.TestCase):
    """[10.1]"""

    def test_its_own_begin(self):
        self.assertEqual(brood([A], 0, 1), [0])
        self.assertEqual(brood([A, B], 0, 2), [0])
        self.assertEqual(brood(ROUND, 6, 7), [6])
        self.assertEqual(brood(ROUND, 0, 7), [0])

    def test_ordinary_ones(self):
        self.assertEqual(brood(ROUND, 0, 1), [0, 2, 4])
        self.assertEqual(brood(ROUND, 1, 2), [1, 3, 5])
        self.assertEqual(brood(ROUND, 0, 2), [0, 2, 4])
        self.assertEqual(brood(ROUND, 1, 4), [1, 3])
        self.assertEqual(brood(BEHIND, 4, 5), [0, 2, 4])
        self.assertEqual(brood(BEHIND, 4, 6), [0, 2, 4])
        self.assertEqual(brood(MIXED, 3, 5), [0, 3, 6])
        self.assertEqual(brood(LONG, 0, 1), list(range(59)))
        self.assertEqual(brood(LONG_BACK, 59, 60), [59])
        self.assertEqual(brood(LONG_BACK, 58, 59), list(range(59)))

    def test_against_all_chains_of_small_rows(self):
        for telling in by_hand.tellings_to(4):
            for begin, behind in by_hand.stretches(len(by_hand.row_told(telling))):
                if holds_end(telling, begin, behind):
                    want = brood_by_the_words(telling, begin, behind)
                    self.assertEqual(brood(telling, begin, behind), want, (telling, begin, behind))
                else:
                    by_hand.raised(self, NoPlace, brood, telling, begin, behind)

    def test_broods_of_long_rows_part_all_begins(self):
        for telling in long_tellings():
            row = by_hand.row_told(telling)
            for many in (1, 2, 3, 5, 8, 13, 21, 34, len(row)):
                starts = range(len(row) - many + 1)
                parts = [brood(telling, begin, begin + many) for begin in starts
                         if holds_end(telling, begin, begin + many)]
                self.assertEqual(sorted(sum(parts, [])), list(starts))
                self.assertTrue(all(part == sorted(part) for part in parts))


class NoPlaces(unittest.TestCase):
    """[10.1]: NoPlace of what is no stretch of the told row"""

    def test_beyond_the_row_or_the_one_behind_the_other(self):
        far = 10 ** 59
        wrong = [(-1, 1), (-1, 0), (-2, -1), (-far, 1), (0, 8), (6, 8), (7, 8), (0, far), (far, far + 1),
                 (0, 0), (3, 3), (7, 7), (-1, -1), (far, far), (3, 2), (7, 6), (1, 0), (far, 1), (2, -far),
                 (-far, far), (8, 0), (5, -1)]
        for call in (chain, brood):
            for begin, behind in wrong:
                by_hand.raised(self, NoPlace, call, ROUND, begin, behind)
            for begin, behind in ((0, 0), (0, 1), (-1, 0), (1, 1), (-1, 1)):
                by_hand.raised(self, NoPlace, call, [], begin, behind)

    def test_just_the_stretches_of_the_row(self):
        for begin in range(-2, 10):
            for behind in range(-2, 10):
                if 0 <= begin < behind <= 7:
                    self.assertEqual(chain(ROUND, begin, behind)[0], (begin, behind))
                else:
                    by_hand.raised(self, NoPlace, chain, ROUND, begin, behind)
                    by_hand.raised(self, NoPlace, brood, ROUND, begin, behind)

    def test_brood_of_a_stretch_without_an_end(self):
        for begin, behind in ((2, 3), (2, 6), (3, 5), (5, 6)):
            by_hand.raised(self, NoPlace, brood, ROUND, begin, behind)
        by_hand.raised(self, NoPlace, brood, LONG, 1, 59)
        self.assertEqual(brood(LONG, 1, 60), [1])


class Broods(unittest.TestCase):
    """[10.2]"""

    def test_ordinary_words(self):
        self.assertEqual(broods(ROUND, "ab"), [(0, [0, 2, 4])])
        self.assertEqual(broods(ROUND, "ba"), [(1, [1, 3]), (5, [5])])
        self.assertEqual(broods(ROUND, "a"), [(0, [0, 2, 4]), (6, [6])])
        self.assertEqual(broods(ROUND, "b"), [(1, [1, 3, 5])])
        self.assertEqual(broods(ROUND, "abababa"), [(0, [0])])
        self.assertEqual(broods(BEHIND, "ba"), [(4, [0, 2, 4])])
        self.assertEqual(broods(LONG, "a"), [(0, list(range(59))), (59, [59])])

    def test_one_letter(self):
        self.assertEqual(broods([A], "a"), [(0, [0])])
        self.assertEqual(broods([A], "b"), [])
        self.assertEqual(broods([A], "aa"), [])

    def test_words_that_stand_nowhere(self):
        for word in ("c", "bb", "aa", "abb", "z" * 60, "abababab", "a" * 60):
            self.assertEqual(broods(ROUND, word), [])

    def test_longer_than_the_row(self):
        self.assertEqual(broods([A, A], "aaa"), [])
        self.assertEqual(broods(ROUND, "ab" * 30), [])
        self.assertEqual(broods(LONG, "a" * 60), [(0, [0])])
        self.assertEqual(broods(LONG, "a" * 61), [])

    def test_the_telling_without_pieces(self):
        for word in ("a", "ab", "z" * 60):
            self.assertEqual(broods([], word), [])

    def test_all_words_of_small_rows(self):
        words = by_hand.rows_to("abc", 4)[1:]
        for telling in by_hand.tellings_to(3) + by_hand.tellings_to(4)[::5]:
            for word in words:
                self.assertEqual(broods(telling, word), broods_by_the_words(telling, word), (telling, word))

    def test_all_places_each_once(self):
        for telling in by_hand.tellings_to(4) + long_tellings():
            row = by_hand.row_told(telling)
            for word in by_hand.standing(row):
                told = broods(telling, word)
                starts = [place for place, _ in told]
                self.assertEqual(starts, sorted(starts))
                self.assertEqual(sorted(sum([part for _, part in told], [])), by_hand.places_of(row, word))
                self.assertTrue(told)


class Told(unittest.TestCase):
    """[0.2]"""

    def test_what_is_handed_in_stays(self):
        for telling in (ROUND, BEHIND, MIXED, LONG, []):
            handed = deepcopy(telling)
            broods(handed, "ab"), broods(handed, "zz")
            by_hand.raised(self, NoPlace, brood, handed, 0, 0)
            by_hand.raised(self, NoPlace, chain, handed, -1, 1)
            if telling:
                chain(handed, 0, 1), brood(handed, 0, len(by_hand.row_told(telling)))
            self.assertEqual(handed, telling)

    def test_what_is_told_is_the_askers_own(self):
        for call, handed in ((chain, (ROUND, 4, 6)), (brood, (ROUND, 0, 1)), (broods, (ROUND, "ba"))):
            kept = deepcopy(call(*handed))
            for part in by_hand.lists_within(call(*handed)):
                part.clear()
            self.assertEqual(call(*handed), kept)

    def test_no_two_told_lists_are_one(self):
        told = [call(*handed) for call, handed in (
            (chain, (ROUND, 4, 6)), (brood, (ROUND, 6, 7)), (broods, (ROUND, "ba")), (broods, (ROUND, "a")))]
        told += [broods(ROUND, "ba"), broods(ROUND, "a"), brood(ROUND, 6, 7), chain(ROUND, 4, 6)]
        by_hand.all_one_each(self, ROUND, *told)


if __name__ == "__main__":
    unittest.main()
