"""Rules: a row, however long, told by tuples of letters and of numbers of rules ahead."""

from likemarks.errors import NoPlace, NoRules
from likemarks.kinds import is_letter, is_number

MOST_RULES = 40
MOST_PARTS = 8
MOST_AT_ONCE = 300


def is_part(thing, number):
    """Tell of anything whether it can be a part of the rule of this number."""
    if is_number(thing):
        return 0 <= thing < number
    return is_letter(thing)


def is_rule(thing, number):
    """Tell of anything whether it can be the rule of this number."""
    if not isinstance(thing, tuple) or not 1 <= len(thing) <= MOST_PARTS:
        return False
    return all([is_part(part, number) for part in thing])


def need_rules(rules):
    """Refuse with NoRules what is no list of rules."""
    if not isinstance(rules, list) or not 1 <= len(rules) <= MOST_RULES:
        raise NoRules("rules are a list of 1 to 40 tuples")
    if not all([is_rule(rule, number) for number, rule in enumerate(rules)]):
        raise NoRules("a rule has 1 to 8 parts, each a letter or the number of a rule ahead")


def laid_out(rule, place, sizes):
    """List the parts of a rule unrolled from a place on, as tuples (part, begin, behind)."""
    parts = []
    begin = place
    for part in rule:
        behind = begin + (sizes[part] if is_number(part) else 1)
        parts.append((part, begin, behind))
        begin = behind
    return parts


def lengths(rules):
    """List how many letters each rule has unrolled."""
    need_rules(rules)
    sizes = []
    for rule in rules:
        _, _, behind = laid_out(rule, 0, sizes)[-1]
        sizes.append(behind)
    return sizes


def letters_at(rules, place, many):
    """Tell so many letters of the row from a place on."""
    sizes = lengths(rules)
    if not 1 <= many <= MOST_AT_ONCE or not 0 <= place <= sizes[-1] - many:
        raise NoPlace("the row has no such letters, or more than 300 are asked for")
    # What is still to come, the next part last; most of it is left out whole.
    waiting = [len(rules) - 1]
    left_out = place
    letters = []
    while len(letters) < many:
        part = waiting.pop()
        size = sizes[part] if is_number(part) else 1
        if size <= left_out:
            left_out -= size
        elif is_number(part):
            waiting.extend(rules[part][::-1])
        else:
            letters.append(part)
    return "".join(letters)


def first_places(rules, sizes):
    """Tell by a dict the first place of each letter of the row and each rule unrolled in it."""
    found = {len(rules) - 1: 0}
    # A rule is a part of later ones alone: when its turn comes, its place is known.
    for number in reversed(range(len(rules))):
        if number in found:
            for part, begin, _ in laid_out(rules[number], found[number], sizes):
                found[part] = min(begin, found.get(part, begin))
    return found


def firsts(rules):
    """List for each rule its first place, None where it isn't unrolled in the row."""
    found = first_places(rules, lengths(rules))
    return [found.get(number) for number in range(len(rules))]
