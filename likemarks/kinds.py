"""What a single thing is: a number, a letter, a pair of numbers."""

LETTERS = "abcdefghijklmnopqrstuvwxyz"


def is_number(thing):
    """Tell of anything whether it is a whole number."""
    # True and False are integers to Python, but no numbers here.
    return isinstance(thing, int) and not isinstance(thing, bool)


def is_letter(thing):
    """Tell of anything whether it is one letter, a to z."""
    return isinstance(thing, str) and len(thing) == 1 and thing in LETTERS


def is_pair(thing):
    """Tell of anything whether it is a tuple of two numbers."""
    return isinstance(thing, tuple) and len(thing) == 2 and all([is_number(part) for part in thing])
