"""One hand in place of two: what comes then, and whether it is nothing new."""

from memoryviews.errors import BadPair
from memoryviews.exploring import end_behind, ends_of, explore, run_to
from memoryviews.machines import check_rule
from memoryviews.programs import NOTHING_HELD, ROWS, check_hand, check_outcome, check_program, slot_of
from memoryviews.values import listed, lists_all, run_table, same

# the rules by which merging is narrower for all programs
ALWAYS_NARROWER = ("one", "views")


class Narrower:
    """For each outcome of the merged program a whole run of the program, to whose outcome it belongs."""

    def __init__(self, runs):
        self.runs = run_table(runs)

    def __eq__(self, other):
        return isinstance(other, Narrower) and same(self.runs, other.runs)

    def shows(self, program, one, other, rule):
        """Whether the runs are so, for just all outcomes of the merged program."""
        _, origins = explore_merged(program, one, other, rule)
        ends = ends_of(joined(program, one, other), rule, origins)
        if not isinstance(self.runs, dict) or not lists_all(list(self.runs), ends):
            return False
        found = {outcome: end_behind(program, rule, self.runs[outcome]) for outcome in self.runs}
        return all([found[outcome] is not None and belonging(program, one, other, found[outcome]) == outcome
                    for outcome in found])


class Wider:
    """A whole run of the merged program, and all states of the program, to none of whose outcomes it belongs."""

    def __init__(self, run, states):
        self.run = listed(run)
        self.states = listed(states)

    def __eq__(self, other):
        return isinstance(other, Wider) and same(self.run, other.run) and same(self.states, other.states)

    def shows(self, program, one, other, rule):
        """Whether the run and the states are so."""
        origins, _ = explore_merged(program, one, other, rule)
        outcome = end_behind(joined(program, one, other), rule, self.run)
        if outcome is None or not lists_all(self.states, origins):
            return False
        ends = ends_of(program, rule, origins)
        return not any([belonging(program, one, other, end) == outcome for end in ends])


def check_merged(program, one, other):
    """Raise an error for what is no program, or are no two hands of it that can be merged."""
    check_program(program)
    check_hand(program, one)
    check_hand(program, other)
    if one >= other:
        raise BadPair("the first hand is not less than the second one")
    if len(program[one]) + len(program[other]) > ROWS:
        raise BadPair("the hands have too many rows together")
    if any([slot in slots_in(program[other]) for slot in slots_in(program[one])]):
        raise BadPair("a register is in rows of both hands")


def slots_in(rows):
    """The list of the registers that are in some rows."""
    slots = [slot_of(row) for row in rows]
    return [slot for slot in slots if slot is not None]


def explore_merged(program, one, other, rule):
    """All states of a program and of the merged one, for arguments that may be wrong."""
    check_merged(program, one, other)
    check_rule(rule)
    return explore(program, rule), explore(joined(program, one, other), rule)


def joined(program, one, other):
    """The merged program of what surely are a program and two hands that can be merged."""
    both = (program[one] + program[other],)
    return program[:one] + both + program[one + 1:other] + program[other + 1:]


def belonging(program, one, other, outcome):
    """The outcome of the merged program that belongs to one of the program."""
    hands, there = outcome
    own, others = slots_in(program[one]), slots_in(program[other])
    both = []
    for slot in range(len(NOTHING_HELD)):
        if slot in own:
            both.append(hands[one][slot])
        else:
            both.append(hands[other][slot] if slot in others else 0)
    return (hands[:one] + (tuple(both),) + hands[one + 1:other] + hands[other + 1:], there)


def merged(program, one, other):
    """The program in which one hand does the rows of one, and then those of another one."""
    check_merged(program, one, other)
    return joined(program, one, other)


def merged_outcome(program, one, other, outcome):
    """The outcome of the merged program that belongs to one of the program."""
    check_merged(program, one, other)
    check_outcome(program, outcome)
    return belonging(program, one, other, outcome)


def judge_merging(program, one, other, rule):
    """Whether all that comes of the merged program belongs to what comes of the program, with what shows it."""
    origins, of_merged = explore_merged(program, one, other, rule)
    ends = ends_of(program, rule, origins)
    known = {belonging(program, one, other, outcome): ends[outcome] for outcome in ends}
    ends_merged = ends_of(joined(program, one, other), rule, of_merged)
    for outcome in ends_merged:
        if outcome not in known:
            return Wider(run_to(of_merged, ends_merged[outcome]), list(origins))
    return Narrower({outcome: run_to(origins, known[outcome]) for outcome in ends_merged})


def is_narrower(program, one, other, rule):
    """Whether each outcome of the merged program belongs to some outcome of the program."""
    return isinstance(judge_merging(program, one, other, rule), Narrower)


def always_narrower(rule):
    """Whether merging is narrower by a rule for all programs."""
    check_rule(rule)
    return rule in ALWAYS_NARROWER
