"""Programs and their rows."""

from memoryviews.errors import BadHand, BadOutcome, BadProgram
from memoryviews.values import has_numbers, is_between, is_tuple_of, is_worded

HANDS = 4
ROWS = 16
PLACES = 4
HIGHEST_VALUE = 3
# what a hand holds at first in its registers, and what is at first at the places
NOTHING_HELD = (0, 0, 0)
NOTHING_THERE = (0, 0, 0, 0)
# the words of the rows that put, and get nothing
PUTS = ("put", "give")
# for each word the highest numbers that may follow it; the last number of an only is limited by its hand
FORMS = {
    "put": (3, 3),
    "give": (3, 2),
    "get": (2, 3),
    "swap": (2, 3, 3),
    "fence": (),
    "only": (2, 3, 16),
}


def is_program(thing):
    """Whether a value, of any kind, is a program."""
    return isinstance(thing, tuple) and 1 <= len(thing) <= HANDS and all([is_hand(hand) for hand in thing])


def is_hand(thing):
    """Whether a value is a hand of a program."""
    if not isinstance(thing, tuple) or len(thing) > ROWS:
        return False
    return all([is_row(row, len(thing) - at - 1) for at, row in enumerate(thing)])


def is_row(thing, behind):
    """Whether a value is a row with so many rows behind it."""
    if not is_worded(thing) or thing[0] not in FORMS or not has_numbers(thing, FORMS[thing[0]]):
        return False
    return thing[0] != "only" or 1 <= thing[3] <= behind


def check_program(program):
    """Raise BadProgram for what is no program."""
    if not is_program(program):
        raise BadProgram("no program")


def places_of(program):
    """The ascending list of the places of a program's rows."""
    check_program(program)
    places = [place_of(row) for hand in program for row in hand]
    return sorted({place for place in places if place is not None})


def place_of(row):
    """The place of a row, None for a fence and an only."""
    if row[0] in ("put", "give"):
        return row[1]
    if row[0] in ("get", "swap"):
        return row[2]
    return None


def slot_of(row):
    """The number of the register of a row, None if it has none."""
    if row[0] == "give":
        return row[2]
    return row[1] if row[0] in ("get", "swap", "only") else None


def is_putting(row):
    """Whether a row puts."""
    return row[0] in ("put", "give", "swap")


def is_getting(row):
    """Whether a row gets."""
    return row[0] in ("get", "swap")


def value_put(row, held):
    """The value that a row puts, by a hand that holds this before it."""
    if row[0] == "give":
        return held[row[2]]
    return row[-1]


def is_held(thing):
    """Whether a value is what the registers of a hand can hold."""
    return is_tuple_of(thing, 3) and all([is_between(value, 0, HIGHEST_VALUE) for value in thing])


def is_there(thing):
    """Whether a value is what can be at the four places."""
    return is_tuple_of(thing, PLACES) and all([is_between(value, 0, HIGHEST_VALUE) for value in thing])


def check_hand(program, hand):
    """Raise BadHand for what is not the number of a hand."""
    if not is_between(hand, 0, len(program) - 1):
        raise BadHand("no number of a hand")


def check_outcome(program, outcome):
    """Raise BadOutcome for what is no outcome for so many hands."""
    if not is_tuple_of(outcome, 2) or not is_tuple_of(outcome[0], len(program)):
        raise BadOutcome("no pair of what the hands hold, and what is at the places")
    if not all([is_held(held) for held in outcome[0]]) or not is_there(outcome[1]):
        raise BadOutcome("no outcome of this program")
