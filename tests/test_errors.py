import unittest

from likemarks import errors

NAMES = ("NoStand", "NoNet", "NoPlace", "NoLetter", "NoTelling", "NoRules", "NoTails",
         "NoPeriods", "TooMany")


class Errors(unittest.TestCase):
    """[0.4]"""

    def test_mark_error_stands_straight_under_value_error(self):
        self.assertEqual(errors.MarkError.__bases__, (ValueError,))
        self.assertEqual(errors.MarkError("why").args, ("why",))

    def test_each_stands_straight_under_mark_error(self):
        for name in NAMES:
            with self.subTest(name=name):
                error = getattr(errors, name)
                self.assertEqual(error.__name__, name)
                self.assertEqual(error.__module__, "likemarks.errors")
                self.assertEqual(error.__bases__, (errors.MarkError,))
                self.assertTrue(issubclass(error, ValueError))

    def test_none_stands_under_another_one(self):
        for name in NAMES:
            for other in NAMES:
                under = issubclass(getattr(errors, name), getattr(errors, other))
                self.assertEqual(under, name == other, (name, other))

    def test_each_is_made_with_one_text(self):
        for name in NAMES:
            with self.subTest(name=name):
                error = getattr(errors, name)("a text")
                self.assertEqual(error.args, ("a text",))
                self.assertEqual(str(error), "a text")

    def test_each_is_caught_by_what_it_stands_under_alone(self):
        for name in NAMES:
            for caught in (getattr(errors, name), errors.MarkError, ValueError):
                with self.assertRaises(caught):
                    raise getattr(errors, name)("a text")


if __name__ == "__main__":
    unittest.main()
