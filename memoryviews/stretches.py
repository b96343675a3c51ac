"""Stretches of doings of one hand, which doings of different hands meet, and rings of stretches."""

from memoryviews.errors import NotPlain
from memoryviews.programs import is_putting, place_of
from memoryviews.values import is_tuple_of
from memoryviews.wishes import is_row_of


def check_words(program, words):
    """Raise NotPlain for a program that has rows with any of these words."""
    if any([row[0] in words for hand in program for row in hand]):
        raise NotPlain("there are rows that are not looked at here")


def check_plain(program):
    """Raise NotPlain for a program with any only."""
    check_words(program, ("only",))


def check_bare(program):
    """Raise NotPlain for a program with any only or swap."""
    check_words(program, ("only", "swap"))


def row_at(program, doing):
    """The row of a doing."""
    return program[doing[0]][doing[1]]


def doings_in(program):
    """The ascending list of all doings of a plain program that are no fences."""
    return [(hand, at) for hand, rows in enumerate(program) for at, row in enumerate(rows) if row[0] != "fence"]


def stretches_in(program):
    """The ascending list of all stretches of a plain program."""
    doings = doings_in(program)
    return [(one, other) for one in doings for other in doings if one[0] == other[0] and one[1] <= other[1]]


def is_stretch(program, thing):
    """Whether a value is a stretch of a plain program."""
    if not is_tuple_of(thing, 2) or not all([is_row_of(program, doing) for doing in thing]):
        return False
    one, other = thing
    if one[0] != other[0] or one[1] > other[1]:
        return False
    return row_at(program, one)[0] != "fence" and row_at(program, other)[0] != "fence"


def rows_between(program, stretch):
    """The rows of a hand between both doings of a stretch."""
    one, other = stretch
    return program[one[0]][one[1] + 1:other[1]]


def has_fence(program, stretch):
    """Whether there is a fence between both doings of a stretch."""
    return any([row[0] == "fence" for row in rows_between(program, stretch)])


def count_doings(stretches):
    """The number of the different doings of some stretches of different hands."""
    return sum([1 if one == other else 2 for one, other in stretches])


def meet(program, one, other):
    """Whether two doings meet."""
    if one[0] == other[0]:
        return False
    row, that = row_at(program, one), row_at(program, other)
    if place_of(row) is None or place_of(row) != place_of(that):
        return False
    return is_putting(row) or is_putting(that)


def joints_of(ring):
    """The list of the joints of a ring: pairs of the second doing of a stretch and the first one of the next."""
    return [(stretch[1], behind[0]) for stretch, behind in zip(ring, ring[1:] + ring[:1])]


def is_ring(program, things):
    """Whether something is a list of two or more stretches of different hands that are a ring."""
    if not isinstance(things, list) or len(things) < 2 or not all([is_stretch(program, thing) for thing in things]):
        return False
    if len({one[0] for one, _ in things}) != len(things):
        return False
    return all([meet(program, one, other) for one, other in joints_of(things)])
