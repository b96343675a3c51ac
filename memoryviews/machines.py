"""Machines step by step, by each of the four rules."""

from memoryviews.errors import BadRule
from memoryviews.messages import fenced, first_messages, is_open, seeing, with_message
from memoryviews.programs import NOTHING_HELD, NOTHING_THERE
from memoryviews.programs import check_program, is_getting, is_putting, place_of, value_put
from memoryviews.values import replaced, same

RULES = ("one", "queues", "lanes", "views")


def is_rule(thing):
    """Whether a value is one of the four rules."""
    return isinstance(thing, str) and thing in RULES


def check_rule(rule):
    """Raise BadRule for what is no rule."""
    if not is_rule(rule):
        raise BadRule("no rule")


def first_state(program, rule):
    """The first state of a program by a rule."""
    check_program(program)
    check_rule(rule)
    return start_of(program, rule)


def start_of(program, rule):
    """The first state of what surely is a program by what surely is a rule."""
    stands = tuple([(0, NOTHING_HELD) for _ in program])
    if rule == "one":
        return (stands, NOTHING_THERE, None)
    if rule == "views":
        return (stands, first_messages(), (tuple([NOTHING_THERE for _ in program]), NOTHING_THERE))
    return (stands, NOTHING_THERE, tuple([() for _ in program]))


def next_row(program, state, hand):
    """The next row of a hand in a state, None if there is none."""
    at = state[0][hand][0]
    if at == len(program[hand]):
        return None
    return program[hand][at]


def has_ended(program, rule, state):
    """Whether a state is over."""
    if any([at < len(rows) for (at, _), rows in zip(state[0], program)]):
        return False
    return rule not in ("queues", "lanes") or not any([len(queue) > 0 for queue in state[2]])


def end_of(rule, state):
    """The outcome of a state that is over."""
    there = state[1]
    if rule == "views":
        there = tuple([row[-1][0] for row in there])
    return (tuple([held for _, held in state[0]]), there)


def deeds_in(program, rule, state, room=None):
    """The list of all deeds that can be done in a state, hand by hand, perhaps with a room."""
    deeds = []
    for hand in range(len(program)):
        row = next_row(program, state, hand)
        if row is not None:
            deeds.extend([("do", hand, at) for at in ways_of(rule, state, hand, row, room)])
        if rule in ("queues", "lanes"):
            deeds.extend(moves_of(rule, hand, state[2][hand]))
    return deeds


def ways_of(rule, state, hand, row, room):
    """The last parts of all deeds that do a hand's next row; there is none if it must wait."""
    if rule == "one":
        return [None]
    if rule == "views":
        return ways_among(state[1], state[2][0][hand], row)
    many = len(state[2][hand])
    if row[0] in ("fence", "swap"):
        must_wait = many > 0
    else:
        must_wait = room is not None and 0 < room <= many and is_putting(row)
    return [] if must_wait else [None]


def ways_among(memory, view, row):
    """The last parts of all deeds that do a row by views."""
    place = place_of(row)
    if place is None:
        return [None]
    messages, seen = memory[place], view[place]
    if row[0] == "get":
        return list(range(seen, len(messages)))
    if row[0] == "swap":
        return [at for at in range(seen, len(messages)) if is_open(messages, at + 1)]
    return [at for at in range(seen + 1, len(messages) + 1) if is_open(messages, at)]


def moves_of(rule, hand, queue):
    """The deeds that take something from the queue of a hand."""
    if rule == "queues":
        return [("move", hand)] if queue else []
    return [("move", hand, place) for place in sorted({pair[0] for pair in queue})]


def can_do(program, rule, state, deed):
    """Whether something is a deed that can be done in a state."""
    return any([same(deed, possible) for possible in deeds_in(program, rule, state)])


def state_behind(program, rule, state, deed, room=None):
    """The state behind a deed that can be done."""
    if deed[0] == "move":
        return moved(state, deed)
    row = next_row(program, state, deed[1])
    if rule == "views":
        return done_among(state, deed[1], row, deed[2])
    return done_plainly(state, deed[1], row, room == 0)


def moved(state, deed):
    """The state behind a move: of the first pair of a queue, or the first one for a place."""
    stands, memory, rest = state
    queue = rest[deed[1]]
    at = 0
    if len(deed) == 3:
        at = [pair[0] for pair in queue].index(deed[2])
    place, value = queue[at]
    return (stands, replaced(memory, place, value), replaced(rest, deed[1], queue[:at] + queue[at + 1:]))


def done_plainly(state, hand, row, at_once):
    """The state behind a row by one, queues or lanes; all puts may be done at the memory at once."""
    stands, memory, rest = state
    place = place_of(row)
    got = None
    if is_getting(row):
        got = memory[place] if rest is None else value_seen(memory, rest[hand], place)
    if is_putting(row):
        value = value_put(row, stands[hand][1])
        if rest is None or at_once or row[0] == "swap":
            memory = replaced(memory, place, value)
        else:
            rest = replaced(rest, hand, rest[hand] + ((place, value),))
    return (replaced(stands, hand, stand_behind(stands[hand], row, got)), memory, rest)


def value_seen(memory, queue, place):
    """What a hand with this queue gets at a place."""
    waiting = [value for where, value in queue if where == place]
    return waiting[-1] if waiting else memory[place]


def done_among(state, hand, row, at):
    """The state behind a row by views, done with this last part of the deed."""
    stands, memory, rest = state
    place = place_of(row)
    got = None
    if row[0] == "fence":
        rest = fenced(rest, hand)
    if is_getting(row):
        got, view, _ = memory[place][at]
        rest = seeing(rest, hand, view)
    if is_putting(row):
        is_swap = row[0] == "swap"
        value = value_put(row, stands[hand][1])
        memory, rest = with_message(memory, rest, hand, place, at + 1 if is_swap else at, value, is_swap)
    return (replaced(stands, hand, stand_behind(stands[hand], row, got)), memory, rest)


def stand_behind(stand, row, got):
    """The index of the next row, and what the registers hold, behind a row that got something."""
    at, held = stand
    if row[0] == "only" and held[row[1]] != row[2]:
        return (at + 1 + row[3], held)
    if is_getting(row):
        return (at + 1, replaced(held, row[1], got))
    return (at + 1, held)
