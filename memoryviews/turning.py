"""What can still come along a run, and where it turns: from there on only one outcome can."""

from memoryviews.errors import NotOver
from memoryviews.exploring import end_behind, ends_of, explore, explored, run_to, steps_in
from memoryviews.machines import end_of, has_ended
from memoryviews.runs import follow_by
from memoryviews.values import listed, lists_all, same


class Turn:
    """Where a run turns, a run with another outcome that leaves it just before, and all states from there on."""

    def __init__(self, number, other, states):
        self.number = number
        self.other = listed(other)
        self.states = listed(states)

    def __eq__(self, other):
        if not isinstance(other, Turn) or not same(self.number, other.number):
            return False
        return same(self.other, other.other) and same(self.states, other.states)

    def shows(self, program, rule, run):
        """Whether the run turns there, as the other run and the states show."""
        path = whole_path(program, rule, run)
        if not same(self.number, turn_at(program, rule, path)):
            return False
        if not lists_all(self.states, explore_from(program, rule, path[self.number])):
            return False
        return self.other is None if self.number == 0 else self._has_left(program, rule, run, path)

    def _has_left(self, program, rule, run, path):
        """Whether the other run is whole, begins as the run does, and has another outcome."""
        outcome = end_behind(program, rule, self.other)
        if outcome is None or outcome == end_of(rule, path[-1]):
            return False
        many = self.number - 1
        return same(self.other[:many], list(run)[:many])


def explore_from(program, rule, state):
    """All states to which a state leads, itself too, with where they come from."""
    return explored(state, lambda other: steps_in(program, rule, other))


def whole_path(program, rule, run):
    """The states of a whole run, for arguments that may be wrong."""
    path = follow_by(program, rule, run)
    if not has_ended(program, rule, path[-1]):
        raise NotOver("the run is not whole")
    explore(program, rule)
    return path


def open_outcomes(program, rule, run):
    """The list of all outcomes of the whole runs that begin with a run."""
    path = follow_by(program, rule, run)
    # if too many states come about, this is told of a run behind which only few do, too
    explore(program, rule)
    return list(ends_of(program, rule, explore_from(program, rule, path[-1])))


def turn_at(program, rule, path):
    """The least number of deeds along the states of a whole run behind which only its own outcome is open."""
    outcome = end_of(rule, path[-1])
    known = {}
    for number in reversed(range(len(path))):
        waiting = [path[number]]
        while waiting:
            state = waiting.pop()
            if state not in known:
                if has_ended(program, rule, state) and end_of(rule, state) != outcome:
                    return number + 1
                known[state] = True
                waiting.extend([behind for _, behind in steps_in(program, rule, state)])
    return 0


def run_apart(program, rule, run, path, number):
    """A whole run with another outcome that begins with so many deeds of a whole run."""
    origins = explore_from(program, rule, path[number])
    ends = ends_of(program, rule, origins)
    others = [outcome for outcome in ends if outcome != end_of(rule, path[-1])]
    return list(run)[:number] + run_to(origins, ends[others[0]])


def judge_turn(program, rule, run):
    """Where a whole run turns, with what shows it."""
    path = whole_path(program, rule, run)
    number = turn_at(program, rule, path)
    other = None if number == 0 else run_apart(program, rule, run, path, number - 1)
    return Turn(number, other, list(explore_from(program, rule, path[number])))


def turn_of(program, rule, run):
    """The least number of deeds of a whole run behind which only its own outcome is open."""
    return judge_turn(program, rule, run).number
