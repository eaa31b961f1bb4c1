"""The graph of stretches: the words that are their own hull, and the arcs between them."""

from likemarks.errors import NoStand
from likemarks.rows import like_left, like_right, places


def hull_of(row, begins, many):
    """Tell the hull of the word of so many letters at all these places, and its letters ahead."""
    ahead = like_left(row, begins)
    begin = begins[0] - ahead
    behind = begins[0] + many + like_right(row, begins, many)
    return (row[begin:behind], ahead)


def hull(row, word):
    """Tell the hull of a word that stands, or of the one without letters."""
    begins = places(row, word)
    if not begins:
        raise NoStand("the word stands nowhere in the row")
    return hull_of(row, begins, len(word))[0]


def by_letter(row, begins, many):
    """Tell by a dict, letter by letter, at which places a word has that letter behind it."""
    found = {}
    for begin in begins:
        # Beyond the row there is none.
        if begin + many < len(row):
            found.setdefault(row[begin + many], []).append(begin)
    return found


def arcs_by_knot(row):
    """Tell by a dict the arcs from each knot: tuples (letter, knot, ahead)."""
    arcs = {}
    # Each knot is led to from the one without letters: letter by letter, hull by hull.
    waiting = [("", list(range(len(row) + 1)))]
    while waiting:
        knot, begins = waiting.pop()
        if knot not in arcs:
            arcs[knot] = []
            for letter, some in by_letter(row, begins, len(knot)).items():
                goal, ahead = hull_of(row, some, len(knot) + 1)
                arcs[knot].append((letter, goal, ahead))
                waiting.append((goal, [begin - ahead for begin in some]))
    return arcs


def graph_of(row):
    """Tell the graph of a row: a tuple of its knots and its arcs."""
    arcs = arcs_by_knot(row)
    knots = sorted(list(arcs), key=lambda knot: (len(knot), knot))
    numbers = {knot: number for number, knot in enumerate(knots)}
    return (knots, sorted([(numbers[knot], letter, numbers[goal], ahead)
                           for knot in knots for letter, goal, ahead in arcs[knot]]))


def hull_in(graph, word):
    """Tell the number of a word's hull and the letters ahead of it there, None where it doesn't stand."""
    knots, arcs = graph
    goals = {(start, letter): (goal, more) for start, letter, goal, more in arcs}
    number = 0
    ahead = 0
    for many, letter in enumerate(word):
        knot = knots[number]
        if ahead + many < len(knot):
            # All places of what is read so far have the hull's next letter behind it.
            if knot[ahead + many] != letter:
                return None
        elif (number, letter) in goals:
            number, more = goals[(number, letter)]
            ahead += more
        else:
            return None
    return (number, ahead)


def often_in(graph):
    """List for each knot how often it stands."""
    knots, arcs = graph
    found = [1 if knots[-1].endswith(knot) else 0 for knot in knots]
    # Arcs lead to knots behind: from the last one on, those of each goal are all counted.
    for start, _, goal, _ in reversed(arcs):
        found[start] += found[goal]
    return found


def unlike_in(graph):
    """Tell how many unlike words stand."""
    knots, arcs = graph
    ways = [1] + [0] * (len(knots) - 1)
    many = 0
    for start, _, goal, ahead in arcs:
        ways[goal] += ways[start]
        many += ways[start] * (len(knots[goal]) - ahead - len(knots[start]))
    return many


def arc_marks(row):
    """List the marks of arcs, rising: a net."""
    knots, arcs = graph_of(row)
    marks = [row.find(knots[start] + letter) + len(knots[start]) for start, letter, _, _ in arcs]
    return sorted(set(marks))
