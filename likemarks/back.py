"""From a net back to a telling of its row."""

from likemarks.nets import need_net, over


def like_many(row, marks, place):
    """Tell how many letters the like piece has that begins at a place without a mark."""
    mark_ahead = max([mark for mark in marks if mark < place], default=None)
    mark_behind = min([mark for mark in marks if mark > place], default=None)
    many = len(row) - place
    if mark_ahead is not None:
        many = min(many, place - mark_ahead)
    if mark_behind is not None:
        # The last place is place + many - 1, and many is to be no more than
        # mark_behind less that: twice many is at most mark_behind - place + 1.
        # No more are left than this either.
        many = min(many, (mark_behind - place + 1) // 2)
    return many


def telling_of(row, marks):
    """Make a telling of a row by a net: its marks own, all others led to them."""
    need_net(row, marks)
    telling = []
    place = 0
    while place < len(row):
        if place in marks:
            telling.append(("own", row[place]))
            place += 1
        else:
            many = like_many(row, marks, place)
            telling.append(("like", over(row, marks, row[place:place + many]), many))
            place += many
    return telling
