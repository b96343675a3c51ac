"""Rows of messages, and what hands have seen of them."""

from memoryviews.programs import NOTHING_THERE, PLACES
from memoryviews.values import replaced


def together(one, other):
    """Two views together: place by place, the greater index."""
    return tuple([max(index, that) for index, that in zip(one, other)])


def first_messages():
    """The rows of messages at first."""
    return tuple([((0, NOTHING_THERE, False),) for _ in range(PLACES)])


def is_open(row, at):
    """Whether a message may come to stand at an index of a row: there is no tied one there."""
    return at == len(row) or not row[at][2]


def moved_up(view, place, at):
    """A view, when a message comes to stand at this index."""
    if view[place] < at:
        return view
    return replaced(view, place, view[place] + 1)


def row_moved_up(row, place, at):
    """A list of the messages of a row, when a message comes to stand at this index of the row of a place."""
    return [(value, moved_up(view, place, at), tied) for value, view, tied in row]


def seeing(rest, hand, view):
    """The views, when a hand sees what was seen in a view."""
    views, fences = rest
    return (replaced(views, hand, together(views[hand], view)), fences)


def fenced(rest, hand):
    """The views behind a fence of a hand."""
    views, fences = rest
    both = together(views[hand], fences)
    return (replaced(views, hand, both), both)


def with_message(memory, rest, hand, place, at, value, tied):
    """The memory and the views, when a hand's message comes to stand at an index of the row of its place."""
    views, fences = rest
    view = replaced(views[hand], place, at)
    rows = [row_moved_up(row, place, at) for row in memory]
    rows[place].insert(at, (value, view, tied))
    moved = [moved_up(seen, place, at) for seen in views]
    moved[hand] = view
    return tuple([tuple(row) for row in rows]), (tuple(moved), moved_up(fences, place, at))
