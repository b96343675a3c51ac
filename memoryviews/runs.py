"""What can come: runs, and all states that come about."""

from memoryviews.errors import NotOver
from memoryviews.exploring import checked_states, end_behind, ends_of, explore, run_to, runs_of, shows_runs
from memoryviews.machines import check_rule, deeds_in, end_of, has_ended
from memoryviews.programs import check_outcome, check_program
from memoryviews.values import listed, lists_all, run_table, same


class Seen:
    """A whole run with an outcome."""

    def __init__(self, run):
        self.run = listed(run)

    def __eq__(self, other):
        return isinstance(other, Seen) and same(self.run, other.run)

    def shows(self, program, rule, outcome):
        """Whether the run is whole, and has the outcome."""
        explore_for(program, rule, outcome)
        return end_behind(program, rule, self.run) == outcome


class Never:
    """All states that come about, none of which is over with an outcome."""

    def __init__(self, states):
        self.states = listed(states)

    def __eq__(self, other):
        return isinstance(other, Never) and same(self.states, other.states)

    def shows(self, program, rule, outcome):
        """Whether the states are all that come about, and the outcome is not among theirs."""
        origins = explore_for(program, rule, outcome)
        return outcome not in ends_of(program, rule, origins) and lists_all(self.states, origins)


class Outcomes:
    """A whole run for each outcome, and all states that come about."""

    def __init__(self, runs, states):
        self.runs = run_table(runs)
        self.states = listed(states)

    def __eq__(self, other):
        return isinstance(other, Outcomes) and same(self.runs, other.runs) and same(self.states, other.states)

    def shows(self, program, rule):
        """Whether the runs are for just all outcomes, and the states all that come about."""
        origins = explore_by(program, rule)
        ends = ends_of(program, rule, origins)
        return lists_all(self.states, origins) and shows_runs(program, rule, self.runs, ends)


def explore_by(program, rule):
    """All states that come about, for arguments that may be wrong."""
    check_program(program)
    check_rule(rule)
    return explore(program, rule)


def explore_for(program, rule, outcome):
    """The same, with an outcome that may be wrong."""
    check_program(program)
    check_rule(rule)
    check_outcome(program, outcome)
    return explore(program, rule)


def follow_by(program, rule, run):
    """The states of a run, for arguments that may be wrong."""
    check_program(program)
    check_rule(rule)
    return checked_states(program, rule, run)


def states_of(program, rule, run):
    """The list of the states of a run, the first one included."""
    return follow_by(program, rule, run)


def deeds_behind(program, rule, run):
    """The list of all deeds that can be done behind a run."""
    return deeds_in(program, rule, follow_by(program, rule, run)[-1])


def outcome_of(program, rule, run):
    """The outcome of a whole run."""
    state = follow_by(program, rule, run)[-1]
    if not has_ended(program, rule, state):
        raise NotOver("the run is not whole")
    return end_of(rule, state)


def judge_outcome(program, rule, outcome):
    """A whole run with an outcome, or all states if there is none."""
    origins = explore_for(program, rule, outcome)
    ends = ends_of(program, rule, origins)
    if outcome in ends:
        return Seen(run_to(origins, ends[outcome]))
    return Never(list(origins))


def is_seen(program, rule, outcome):
    """Whether an outcome comes."""
    return outcome in ends_of(program, rule, explore_for(program, rule, outcome))


def all_outcomes(program, rule):
    """A whole run for each outcome."""
    origins = explore_by(program, rule)
    return Outcomes(runs_of(program, rule, origins), list(origins))


def outcomes(program, rule):
    """The ascending list of all outcomes."""
    return list(ends_of(program, rule, explore_by(program, rule)))
