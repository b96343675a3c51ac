"""All states that come about, and runs to them."""

from memoryviews.errors import BadRun, TooLarge
from memoryviews.machines import can_do, deeds_in, end_of, has_ended, start_of, state_behind
from memoryviews.values import lists_all

MOST_STATES = 3000


def steps_in(program, rule, state, room=None):
    """All pairs of a deed that can be done in a state and the state behind it."""
    return [(deed, state_behind(program, rule, state, deed, room)) for deed in deeds_in(program, rule, state, room)]


def explored(first, steps):
    """A dict from all states that come about to the state and the deed that first led there, None for the first."""
    origins = {first: None}
    waiting = [first]
    while waiting:
        found = []
        for state in waiting:
            for deed, behind in steps(state):
                if behind not in origins:
                    origins[behind] = (state, deed)
                    found.append(behind)
            if len(origins) > MOST_STATES:
                raise TooLarge("too many states")
        waiting = found
    return origins


def explore(program, rule, room=None):
    """The same for a program by a rule, perhaps with a room."""
    return explored(start_of(program, rule), lambda state: steps_in(program, rule, state, room))


def never_comes(program, rule, outcome):
    """Whether not too many states come about, and none of them is over with an outcome."""
    try:
        origins = explore(program, rule)
    except TooLarge:
        return False
    return outcome not in ends_of(program, rule, origins)


def run_to(origins, state):
    """A run to one of the states that come about."""
    deeds = []
    while origins[state] is not None:
        state, deed = origins[state]
        deeds.append(deed)
    return deeds[::-1]


def ends_of(program, rule, origins):
    """A dict from all outcomes, ascending, to a state each that is over with it."""
    found = {}
    for state in origins:
        if has_ended(program, rule, state):
            found.setdefault(end_of(rule, state), state)
    return {outcome: found[outcome] for outcome in sorted(found)}


def runs_of(program, rule, origins):
    """A dict from all outcomes, ascending, to a whole run each."""
    ends = ends_of(program, rule, origins)
    return {outcome: run_to(origins, ends[outcome]) for outcome in ends}


def follow(program, rule, run):
    """The states of a run, as far as its deeds can be done."""
    states = [start_of(program, rule)]
    for deed in run:
        if not can_do(program, rule, states[-1], deed):
            return states
        states.append(state_behind(program, rule, states[-1], deed))
    return states


def checked_states(program, rule, run):
    """The states of a run argument, or BadRun."""
    if not isinstance(run, (list, tuple)):
        raise BadRun(None)
    states = follow(program, rule, run)
    if len(states) <= len(run):
        raise BadRun(len(states) - 1)
    return states


def last_state(program, rule, run):
    """The state behind the run of an evidence, None if it is no list of deeds that can be done one after the other."""
    if not isinstance(run, list):
        return None
    states = follow(program, rule, run)
    return states[-1] if len(states) > len(run) else None


def end_behind(program, rule, run):
    """The outcome of the run of an evidence, None if it is no whole run."""
    state = last_state(program, rule, run)
    if state is None or not has_ended(program, rule, state):
        return None
    return end_of(rule, state)


def shows_runs(program, rule, runs, outcomes):
    """Whether a dict has just these outcomes, and a whole run by the rule for each of them."""
    if not isinstance(runs, dict) or not lists_all(list(runs), outcomes):
        return False
    return all([end_behind(program, rule, runs[outcome]) == outcome for outcome in runs])
