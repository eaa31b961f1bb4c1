"""What a single thing is: a number, a letter."""

LETTERS = "abcdefghijklmnopqrstuvwxyz"


def is_number(thing):
    """Tell of anything whether it is a whole number."""
    # True and False are integers to Python, but no numbers here.
    return isinstance(thing, int) and not isinstance(thing, bool)


def is_letter(thing):
    """Tell of anything whether it is one letter, a to z."""
    return isinstance(thing, str) and len(thing) == 1 and thing in LETTERS
