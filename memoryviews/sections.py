"""Sections: programs whose hands do their rows behind a lock, and whether they do so one after the other."""

from itertools import permutations

from memoryviews.errors import BadOrder, BadProgram
from memoryviews.exploring import end_behind, ends_of, explore, run_to
from memoryviews.machines import check_rule, next_row, start_of, state_behind
from memoryviews.programs import is_program, place_of, slot_of
from memoryviews.values import frozen, is_between, listed, lists_all, same

MOST_ROWS = 12
# the place and the register of the lock
LOCK = 3
KEY = 2


class Serial:
    """For each outcome of the locked program hands that do their rows one after the other, and no others do."""

    def __init__(self, orders):
        self.orders = {outcome: frozen(orders[outcome]) for outcome in orders}

    def __eq__(self, other):
        return isinstance(other, Serial) and same(self.orders, other.orders)

    def shows(self, program, rule, has_fences):
        """Whether the hands are so, for just all outcomes of the locked program."""
        origins = explore_locked(program, rule, has_fences)
        ends = ends_of(with_lock(program, has_fences), rule, origins)
        if not isinstance(self.orders, dict) or not lists_all(list(self.orders), ends):
            return False
        if not all([is_order(program, self.orders[outcome]) for outcome in ends]):
            return False
        return all([end_in_turn(program, self.orders[outcome]) == outcome for outcome in ends])


class Torn:
    """A whole run of the locked program, whose outcome does not come if hands do their rows one after the other."""

    def __init__(self, run):
        self.run = listed(run)

    def __eq__(self, other):
        return isinstance(other, Torn) and same(self.run, other.run)

    def shows(self, program, rule, has_fences):
        """Whether the run is so."""
        explore_locked(program, rule, has_fences)
        outcome = end_behind(with_lock(program, has_fences), rule, self.run)
        return outcome is not None and outcome not in orders_for(program)


def can_be_locked(row):
    """Whether a row leaves the place and the register of the lock alone."""
    return place_of(row) != LOCK and slot_of(row) != KEY


def check_lockable(program):
    """Raise BadProgram for what is no program that can be locked."""
    if not is_program(program) or any([len(hand) > MOST_ROWS for hand in program]):
        raise BadProgram("no program of hands with at most twelve rows")
    if not all([can_be_locked(row) for hand in program for row in hand]):
        raise BadProgram("the place or the register of the lock is in a row")


def locked(program, has_fences):
    """The locked program, perhaps with fences."""
    check_lockable(program)
    return with_lock(program, has_fences)


def with_lock(program, has_fences):
    """The same for what surely can be locked."""
    last = (("put", LOCK, 0),)
    if has_fences:
        last = (("fence",),) + last
    return tuple([(("swap", KEY, LOCK, 1), ("only", KEY, 0, len(rows + last))) + rows + last for rows in program])


def is_order(program, thing):
    """Whether a value is a tuple of different hands."""
    if not isinstance(thing, tuple) or not all([is_between(hand, 0, len(program) - 1) for hand in thing]):
        return False
    return len({hand for hand in thing}) == len(thing)


def serial_outcome(program, hands):
    """The outcome of the locked program if these hands do their rows in this order, and no others do."""
    check_lockable(program)
    if not is_order(program, hands):
        raise BadOrder("no tuple of different hands")
    return end_in_turn(program, hands)


def end_in_turn(program, hands):
    """The same for what surely are a program that can be locked, and hands of it."""
    state = start_of(program, "one")
    for hand in hands:
        while next_row(program, state, hand) is not None:
            state = state_behind(program, "one", state, ("do", hand, None))
    stands, there, _ = state
    return (tuple([held if hand in hands else (0, 0, 1) for hand, (_, held) in enumerate(stands)]), there)


def orders_for(program):
    """A dict from all outcomes that come if hands do their rows one after the other to such hands."""
    orders = {}
    for many in range(len(program) + 1):
        for hands in permutations(range(len(program)), many):
            orders.setdefault(end_in_turn(program, hands), hands)
    return orders


def explore_locked(program, rule, has_fences):
    """All states of the locked program, for arguments that may be wrong."""
    check_lockable(program)
    check_rule(rule)
    return explore(with_lock(program, has_fences), rule)


def judge_sections(program, rule, has_fences):
    """Whether hands always do their rows one after the other, with what shows it."""
    origins = explore_locked(program, rule, has_fences)
    ends = ends_of(with_lock(program, has_fences), rule, origins)
    orders = orders_for(program)
    for outcome in ends:
        if outcome not in orders:
            return Torn(run_to(origins, ends[outcome]))
    return Serial({outcome: orders[outcome] for outcome in ends})


def is_serial(program, rule, has_fences):
    """Whether hands always do their rows one after the other."""
    return isinstance(judge_sections(program, rule, has_fences), Serial)


def always_serial(rule, has_fences):
    """Whether hands always do their rows one after the other, in all programs."""
    check_rule(rule)
    return rule != "lanes" or has_fences
