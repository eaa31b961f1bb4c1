"""The marks of rules, and how a stretch of their row is brought to a like one over a mark."""

from likemarks.errors import NoPlace
from likemarks.kinds import is_letter
from likemarks.rules import first_places, laid_out, lengths


def rule_marks(rules):
    """List the marks of rules, rising: a net of their row."""
    sizes = lengths(rules)
    found = first_places(rules, sizes)
    marks = [found[part] for part in found if is_letter(part)]
    for number, rule in enumerate(rules):
        if number in found:
            parts = laid_out(rule, found[number], sizes)
            marks.extend([behind - 1 for _, _, behind in parts[:-1]])
    return sorted(set(marks))


def part_with(parts, place):
    """Tell which of the parts laid out one behind the other takes up a place."""
    for part, begin, behind in parts:
        if begin <= place < behind:
            return (part, begin, behind)
    return None


def brought(rules, begin, behind):
    """Tell where a stretch like this one begins, and the mark that it holds there."""
    sizes = lengths(rules)
    if not 0 <= begin < behind <= sizes[-1]:
        raise NoPlace("the row has no such stretch")
    found = first_places(rules, sizes)
    number = len(rules) - 1
    place = 0
    while True:
        part, part_begin, part_behind = part_with(laid_out(rules[number], place, sizes), begin)
        if part_behind < behind:
            back = place - found[number]
            return (begin - back, part_behind - 1 - back)
        if is_letter(part):
            return (found[part], found[part])
        number = part
        place = part_begin
