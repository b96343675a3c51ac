"""Queues and lanes with a room."""

from memoryviews.errors import BadRoom, BadRule
from memoryviews.exploring import end_behind, ends_of, explore, runs_of
from memoryviews.programs import check_outcome, check_program
from memoryviews.values import is_between, lists_all, run_table, same

GREATEST_ROOM = 16


class Roomy:
    """The least room with which all outcomes come, and for each lesser one a run that is lost."""

    def __init__(self, number, lost):
        self.number = number
        self.lost = run_table(lost)

    def __eq__(self, other):
        return isinstance(other, Roomy) and same(self.number, other.number) and same(self.lost, other.lost)

    def shows(self, program, rule):
        """Whether the number and the runs are so."""
        ends = ends_of(program, rule, explore_queued(program, rule))
        if not is_between(self.number, 0, GREATEST_ROOM) or not isinstance(self.lost, dict):
            return False
        if not lists_all(list(self.lost), list(range(self.number))):
            return False
        if len(ends_with(program, rule, self.number)) < len(ends):
            return False
        return all([is_lost(program, rule, room, self.lost[room]) for room in self.lost])


def is_lost(program, rule, room, run):
    """Whether a run is a whole one without a room, whose outcome does not come with the room."""
    outcome = end_behind(program, rule, run)
    return outcome is not None and outcome not in ends_with(program, rule, room)


def check_queued(program, rule):
    """Raise an error for what is no program, or none of the two rules with queues."""
    check_program(program)
    if not isinstance(rule, str) or rule not in ("queues", "lanes"):
        raise BadRule("neither queues nor lanes")


def explore_queued(program, rule):
    """All states that come about without a room, for arguments that may be wrong."""
    check_queued(program, rule)
    return explore(program, rule)


def ends_with(program, rule, room):
    """A dict from all outcomes with a room."""
    return ends_of(program, rule, explore(program, rule, room))


def outcomes_with(program, rule, room):
    """The ascending list of the outcomes with a room."""
    check_queued(program, rule)
    if not is_between(room, 0, GREATEST_ROOM):
        raise BadRoom("no room")
    return list(ends_with(program, rule, room))


def judge_rooms(program, rule):
    """The least room with which all outcomes come."""
    runs = runs_of(program, rule, explore_queued(program, rule))
    room = 0
    lost = {}
    while missing := missing_with(program, rule, room, runs):
        lost[room] = runs[missing[0]]
        room += 1
    return Roomy(room, lost)


def missing_with(program, rule, room, runs):
    """The list of the outcomes that do not come with a room."""
    ends = ends_with(program, rule, room)
    return [outcome for outcome in runs if outcome not in ends]


def least_room(program, rule):
    """The least room with which all outcomes come, as a number."""
    return judge_rooms(program, rule).number


def room_for(program, rule, outcome):
    """The least room with which an outcome comes, None if it does not come by the rule."""
    check_queued(program, rule)
    check_outcome(program, outcome)
    if outcome not in ends_of(program, rule, explore(program, rule)):
        return None
    room = 0
    while outcome not in ends_with(program, rule, room):
        room += 1
    return room
