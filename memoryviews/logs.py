"""Logs of what hands did, and whether a rule lets them."""

from memoryviews.errors import BadLog
from memoryviews.exploring import checked_states, explored, follow, run_to, steps_in
from memoryviews.machines import RULES, check_rule, has_ended, next_row, start_of
from memoryviews.programs import HANDS, ROWS, check_program, value_put
from memoryviews.values import has_numbers, is_worded, listed, lists_all, same

# for each word of an act the highest numbers that may follow it
ACTS = {
    "put": (3, 3),
    "got": (3, 3),
    "swapped": (3, 3, 3),
    "fence": (),
}


class Let:
    """A whole run in which each hand gets what its acts say."""

    def __init__(self, run):
        self.run = listed(run)

    def __eq__(self, other):
        return isinstance(other, Let) and same(self.run, other.run)

    def shows(self, log, rule):
        """Whether the run is whole, and gets what the log says."""
        check_judged(log, rule)
        explore_log(log, rule)
        return is_run_of(log, rule, self.run)


class Unlet:
    """All states to which deeds lead that agree with a log, none of which is over."""

    def __init__(self, states):
        self.states = listed(states)

    def __eq__(self, other):
        return isinstance(other, Unlet) and same(self.states, other.states)

    def shows(self, log, rule):
        """Whether the states are just these, and none of them is over."""
        check_judged(log, rule)
        origins = explore_log(log, rule)
        return last_of(log, rule, origins) is None and lists_all(self.states, origins)


def is_act(thing):
    """Whether a value is an act of a log."""
    return is_worded(thing) and thing[0] in ACTS and has_numbers(thing, ACTS[thing[0]])


def is_log(thing):
    """Whether a value is a log."""
    if not isinstance(thing, tuple) or not 1 <= len(thing) <= HANDS:
        return False
    if not all([isinstance(hand, tuple) and len(hand) <= ROWS for hand in thing]):
        return False
    return all([is_act(act) for hand in thing for act in hand])


def check_log(log):
    """Raise BadLog for what is no log."""
    if not is_log(log):
        raise BadLog("no log")


def check_judged(log, rule):
    """Raise an error for what is no log, or no rule."""
    check_log(log)
    check_rule(rule)


def program_of(log):
    """The program of a log."""
    check_log(log)
    return rows_of(log)


def rows_of(log):
    """The program of what surely is a log."""
    return tuple([tuple([row_of(act) for act in hand]) for hand in log])


def row_of(act):
    """The row that does an act."""
    if act[0] == "got":
        return ("get", 0, act[1])
    if act[0] == "swapped":
        return ("swap", 0, act[1], act[3])
    return act


def agrees(log, state, deed, behind):
    """Whether a deed that leads from a state to the one behind gets nothing, or what the log says."""
    if deed[0] == "move":
        return True
    act = log[deed[1]][state[0][deed[1]][0]]
    return act[0] not in ("got", "swapped") or behind[0][deed[1]][1][0] == act[2]


def agreeing_steps(log, program, rule, state):
    """All pairs of a deed that agrees and the state behind it."""
    steps = steps_in(program, rule, state)
    return [(deed, behind) for deed, behind in steps if agrees(log, state, deed, behind)]


def explore_log(log, rule):
    """All states to which deeds lead that agree."""
    program = rows_of(log)
    return explored(start_of(program, rule), lambda state: agreeing_steps(log, program, rule, state))


def last_of(log, rule, origins):
    """One of these states that is over, None if none is."""
    program = rows_of(log)
    for state in origins:
        if has_ended(program, rule, state):
            return state
    return None


def is_run_of(log, rule, run):
    """Whether something is a whole run whose deeds all agree."""
    if not isinstance(run, list):
        return False
    program = rows_of(log)
    states = follow(program, rule, run)
    if len(states) <= len(run) or not has_ended(program, rule, states[-1]):
        return False
    return all([agrees(log, state, deed, behind) for state, deed, behind in zip(states, run, states[1:])])


def judge_log(log, rule):
    """Whether a rule lets a log, with what shows it."""
    check_judged(log, rule)
    origins = explore_log(log, rule)
    state = last_of(log, rule, origins)
    if state is None:
        return Unlet(list(origins))
    return Let(run_to(origins, state))


def is_let(log, rule):
    """Whether a rule lets a log."""
    return isinstance(judge_log(log, rule), Let)


def rules_for(log):
    """The list of the rules that let a log."""
    return [rule for rule in RULES if is_let(log, rule)]


def log_of(program, rule, run):
    """The log of a run: what the hands put and got."""
    check_program(program)
    check_rule(rule)
    states = checked_states(program, rule, run)
    acts = [[] for _ in program]
    for state, deed, behind in zip(states, run, states[1:]):
        hand = deed[1]
        row = next_row(program, state, hand)
        if deed[0] == "do" and row[0] != "only":
            acts[hand].append(act_of(row, state[0][hand][1], behind[0][hand][1]))
    return tuple([tuple(hand) for hand in acts])


def act_of(row, held, held_behind):
    """The act of a row, by a hand that holds this before it and that behind it."""
    if row[0] == "fence":
        return row
    if row[0] == "get":
        return ("got", row[2], held_behind[row[1]])
    if row[0] == "swap":
        return ("swapped", row[2], held_behind[row[1]], row[3])
    return ("put", row[1], value_put(row, held))
