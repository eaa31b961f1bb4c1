"""Rows made of other rows, and the nets of these made of theirs."""

from likemarks.errors import NoLetter, NoPlace, TooMany
from likemarks.nets import need_net
from likemarks.rows import MOST_LETTERS


def need_few(many):
    """Refuse with TooMany more letters than a row has."""
    if many > MOST_LETTERS:
        raise TooMany("the row made has more than sixty letters")


def need_letters(row, table):
    """Refuse with NoLetter a table that lacks a letter of the row."""
    for letter in row:
        if letter not in table:
            raise NoLetter("the table lacks a letter of the row")


def joined(row, marks, other, more):
    """Tell the one row and the other behind it, with the marks of both and the one's last place."""
    need_net(row, marks)
    need_net(other, more)
    many = len(row)
    need_few(many + len(other))
    if row == "" or other == "":
        return (row + other, marks + more)
    shifted = [many + mark for mark in more]
    return (row + other, sorted(set(marks + [many - 1])) + shifted)


def rounds(row, marks, many):
    """Tell the first so many letters, no fewer than the row has, of the row told again and again."""
    need_net(row, marks)
    if row == "":
        raise NoLetter("the row has no letters to be told again")
    if many < len(row):
        raise NoPlace("these are fewer letters than the row has")
    need_few(many)
    if many == len(row):
        return (row, list(marks))
    again = row * (many // len(row) + 1)
    return (again[:many], sorted(set(marks + [len(row) - 1])))


def mirrored(row, marks):
    """Tell the row from behind, with its marks."""
    need_net(row, marks)
    need_few(len(row))
    return (row[::-1], [len(row) - 1 - mark for mark in marks[::-1]])


def merged(row, marks, table):
    """Tell the row with each letter exchanged for that of the table, with the same marks."""
    need_net(row, marks)
    need_letters(row, table)
    need_few(len(row))
    return ("".join([table[letter] for letter in row]), list(marks))


def imaged(row, marks, table):
    """Tell the row with each letter exchanged for its text, with marks at the images of its marks."""
    need_net(row, marks)
    need_letters(row, table)
    images = [table[letter] for letter in row]
    begins = []
    behind = 0
    for image in images:
        begins.append(behind)
        behind += len(image)
    need_few(behind)
    found = []
    for place in marks:
        found.extend([begins[place], begins[place] + len(images[place]) - 1])
    for place, letter in enumerate(row):
        if row.index(letter) == place:
            found.extend(list(range(begins[place], begins[place] + len(images[place]))))
    return ("".join(images), sorted(set(found)))
