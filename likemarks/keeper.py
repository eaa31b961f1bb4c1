"""The keeper: a row to which letters are put and taken off, with its first cutting."""

from likemarks.cuttings import stands_earlier
from likemarks.errors import NoLetter, TooMany
from likemarks.kinds import is_letter
from likemarks.nets import least_over, next_marks
from likemarks.rows import MOST_LETTERS


class Keeper:
    """A row, at first without letters, and the ends of its first cutting as its marks."""

    def __init__(self):
        self._row = ""
        self._marks = []

    def put(self, letter):
        """Put a letter behind the row."""
        if not is_letter(letter):
            raise NoLetter("this is no letter")
        if len(self._row) == MOST_LETTERS:
            raise TooMany("the row has sixty letters already")
        self._row += letter
        # What lies ahead of a letter is cut the same, whatever comes behind.
        if not stands_earlier(self._row, self.begin(), len(self._row)):
            self._marks.append(len(self._row) - 1)

    def take(self):
        """Take the last letter off the row, and tell it."""
        if self._row == "":
            raise NoLetter("the row has no letters")
        letter = self._row[-1]
        self._row = self._row[:-1]
        # An end at the letter's place went with it.
        if self.begin() > len(self._row):
            self._marks.pop()
        return letter

    def row(self):
        """Tell the row."""
        return self._row

    def marks(self):
        """List the ends of the first cutting."""
        return list(self._marks)

    def begin(self):
        """Tell the place behind the last end, 0 where there is none."""
        return self._marks[-1] + 1 if self._marks else 0

    def over(self, word):
        """Tell the least place at which a word stands over a mark, or None."""
        nearest = next_marks(len(self._row), self._marks)
        return least_over(self._row, nearest, word)
