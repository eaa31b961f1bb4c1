import unittest
from itertools import product

import by_hand
from likemarks.errors import NoTails
from likemarks.tails import ahead, row_back, tails

SMALL = by_hand.rows_to("ab", 8) + by_hand.rows_to("abc", 5)


def ahead_by_hand(row):
    pairs = sorted((row[begin:], ("." + row)[begin]) for begin in range(len(row) + 1))
    return "".join(sign for _, sign in pairs)


def back_by_hand(text):
    """The row of a text with one point, or None: all turned texts sorted, column by column."""
    turned = [""] * len(text)
    for _ in text:
        turned = sorted(sign + rest for sign, rest in zip(text, turned))
    rows = [one[:-1] for one in turned if one.endswith(".")]
    return rows[0] if rows and ahead_by_hand(rows[0]) == text else None


class Tails(unittest.TestCase):
    """[7.1]"""

    def test_ordinary_rows(self):
        self.assertEqual(tails("banana"), [6, 5, 3, 1, 0, 4, 2])
        self.assertEqual(tails("abc"), [3, 0, 1, 2])
        self.assertEqual(tails("cba"), [3, 2, 1, 0])

    def test_the_row_without_letters(self):
        self.assertEqual(tails(""), [0])

    def test_like_letters(self):
        self.assertEqual(tails("a"), [1, 0])
        self.assertEqual(tails("aaaa"), [4, 3, 2, 1, 0])
        self.assertEqual(tails("z" * 60), list(range(60, -1, -1)))

    def test_a_row_told_again_and_again(self):
        self.assertEqual(tails("ababab"), [6, 4, 2, 0, 5, 3, 1])
        self.assertEqual(tails("abab" * 15), [60] + list(range(58, -1, -2)) + list(range(59, 0, -2)))

    def test_the_begins_in_the_order_of_the_texts(self):
        for row in SMALL + list(by_hand.LONG_ROWS):
            pairs = sorted((row[begin:], begin) for begin in range(len(row) + 1))
            self.assertEqual(tails(row), [begin for _, begin in pairs])


class Ahead(unittest.TestCase):
    """[7.1]"""

    def test_ordinary_rows(self):
        self.assertEqual(ahead("banana"), "annb.aa")
        self.assertEqual(ahead("abc"), "c.ab")
        self.assertEqual(ahead("cba"), "abc.")

    def test_the_row_without_letters(self):
        self.assertEqual(ahead(""), ".")

    def test_like_letters(self):
        self.assertEqual(ahead("a"), "a.")
        self.assertEqual(ahead("aaaa"), "aaaa.")
        self.assertEqual(ahead("z" * 60), "z" * 60 + ".")

    def test_a_row_told_again_and_again(self):
        self.assertEqual(ahead("ababab"), "bbb.aaa")
        self.assertEqual(ahead("ab" * 30), "b" * 30 + "." + "a" * 30)

    def test_sign_by_sign(self):
        for row in SMALL + list(by_hand.LONG_ROWS):
            self.assertEqual(ahead(row), ahead_by_hand(row))


class RowBack(unittest.TestCase):
    """[7.2]"""

    def test_ordinary_texts(self):
        self.assertEqual(row_back("annb.aa"), "banana")
        self.assertEqual(row_back("c.ab"), "abc")
        self.assertEqual(row_back("a."), "a")
        self.assertEqual(row_back("."), "")

    def test_what_ahead_tells(self):
        for row in SMALL + list(by_hand.LONG_ROWS) + ["z" * 60, "ba" * 30, "zyxw" * 15]:
            self.assertEqual(row_back(ahead(row)), row)

    def test_unlike_rows_have_unlike_letters_ahead(self):
        self.assertEqual(len({ahead(row) for row in SMALL}), len(set(SMALL)))

    def test_all_texts_of_few_signs(self):
        for most, letters in ((7, "ab"), (5, "abz")):
            told = {ahead(row): row for row in by_hand.rows_to(letters, most)}
            for many in range(most + 2):
                for signs in product(letters + ".", repeat=many):
                    self.check("".join(signs), told)

    def check(self, text, told):
        if text in told:
            self.assertEqual(row_back(text), told[text])
        else:
            by_hand.raised(self, NoTails, row_back, text)


class NoTailsOf(unittest.TestCase):
    """[7.2]: NoTails"""

    def refused(self, *texts):
        for text in texts:
            with self.subTest(text=text):
                by_hand.raised(self, NoTails, row_back, text)

    def test_the_text_without_signs(self):
        self.refused("")

    def test_no_point(self):
        self.refused("a", "annbaa", "b", "aaaa", "a" * 60, "a" * 61)

    def test_two_points(self):
        self.refused("..", "a..", "annb.a.", ".a.", "annb..aa", "." * 61, "a" * 59 + "..")

    def test_other_signs(self):
        for sign in [chr(k) for k in range(32, 127) if chr(k) not in "abcdefghijklmnopqrstuvwxyz%."] + ["\n"]:
            self.refused(sign, sign + ".", "." + sign, "annb.aa" + sign, "annb" + sign + "aa",
                         "an" + sign + "b.aa", sign + "nnb.aa")

    def test_letters_exchanged(self):
        self.refused(".a", ".banana", "nanb.aa", "bbba.aa", "." + "a" * 60, "a" * 30 + "." + "a" * 30)
        refused = 0
        for row in by_hand.LONG_ROWS + ("banana",):
            text = ahead(row)
            for k in range(len(text) - 1):
                other = text[:k] + text[k + 1] + text[k] + text[k + 2:]
                want = back_by_hand(other)
                if want is None:
                    by_hand.raised(self, NoTails, row_back, other)
                    refused += 1
                else:
                    self.assertEqual(row_back(other), want)
        self.assertGreater(refused, 100)

    def test_sixty_and_sixty_one_letters(self):
        self.assertEqual(row_back("a" * 60 + "."), "a" * 60)
        self.assertEqual(row_back("b" * 30 + "." + "a" * 30), "ab" * 30)
        self.refused("a" * 59 + ".a", "." + "a" * 60, "a" * 60 + "..", "a" * 60 + "b", "ab." * 20 + "a")
        # As many as no row has, also where they would be the letters ahead of a longer text.
        self.refused("a" * 61 + ".", "b" * 31 + "." + "a" * 30, "a" * 60 + ".a", "." + "a" * 61)


class Told(unittest.TestCase):
    """[0.2]"""

    def test_a_told_list_is_the_askers_own(self):
        tails("banana").clear()
        tails("banana")[0] = 7
        self.assertEqual(tails("banana"), [6, 5, 3, 1, 0, 4, 2])
        self.assertIsNot(tails("banana"), tails("banana"))


if __name__ == "__main__":
    unittest.main()
