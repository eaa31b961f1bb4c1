"""Heads and cores: the few words by which all words of a row are known."""

from likemarks.errors import NoStand
from likemarks.rows import like_right, places, words_of


def often(row, word):
    """Tell how often a word stands, the one without letters n + 1 times."""
    return len(places(row, word))


def how_often(row):
    """Tell by a dict how often each word stands, the one without letters too."""
    table = {}
    for many in range(len(row) + 1):
        for word in words_of(row, many):
            table[word] = table.get(word, 0) + 1
    return table


def is_head(table, word):
    """Tell whether a word that stands does so less often than without its last letter."""
    # The word without letters is still the same then, and so no head.
    return table[word] < table[word[:-1]]


def is_core(table, word):
    """Tell whether a head stands less often than without its first letter, too."""
    return is_head(table, word) and table[word] < table[word[1:]]


def heads(row):
    """List the heads of a row, sorted."""
    table = how_often(row)
    return sorted([word for word in table if is_head(table, word)])


def cores(row):
    """List the cores of a row, sorted."""
    table = how_often(row)
    return sorted([word for word in table if is_core(table, word)])


def need_stand(row, word):
    """Refuse with NoStand a word that stands nowhere."""
    # The word without letters has neither a head nor a core to be found.
    if word == "" or word not in row:
        raise NoStand("the word stands nowhere in the row")


def head_of(row, word):
    """Tell the longest head with which a word begins."""
    need_stand(row, word)
    many = often(row, word)
    head = word
    # The word without letters stands more often than any other: one letter is left at least.
    while often(row, head[:-1]) == many:
        head = head[:-1]
    return head


def whole_of(row, word):
    """Tell the longest word that begins with a word and stands as often."""
    need_stand(row, word)
    begins = places(row, word)
    many = len(word) + like_right(row, begins, len(word))
    return row[begins[0]:begins[0] + many]


def core_of(row, word):
    """Tell the core of a word, and how many first letters were left out for it."""
    need_stand(row, word)
    many = often(row, word)
    core = word
    while often(row, core[1:]) == many:
        core = core[1:]
    ahead = len(word) - len(core)
    while often(row, core[:-1]) == many:
        core = core[:-1]
    return (core, ahead)
