"""Rules within rules."""

from memoryviews.exploring import end_behind, ends_of, explore, run_to, runs_of, shows_runs
from memoryviews.machines import RULES, check_rule
from memoryviews.programs import check_outcome, check_program
from memoryviews.values import listed, lists_all, run_table, same

# for each rule those that it is within for all programs
ALWAYS = {
    "one": ("one", "queues", "lanes", "views"),
    "queues": ("queues", "lanes", "views"),
    "lanes": ("lanes",),
    "views": ("views",),
}


class Within:
    """For each outcome by the first rule a whole run by the other one."""

    def __init__(self, runs):
        self.runs = run_table(runs)

    def __eq__(self, other):
        return isinstance(other, Within) and same(self.runs, other.runs)

    def shows(self, program, one, other):
        """Whether the runs are whole by the other rule, and for just all outcomes by the first one."""
        first, _ = explore_both(program, one, other)
        return shows_runs(program, other, self.runs, ends_of(program, one, first))


class Beyond:
    """A whole run by the first rule, and all states by the other one, none of which is over with its outcome."""

    def __init__(self, run, states):
        self.run = listed(run)
        self.states = listed(states)

    def __eq__(self, other):
        return isinstance(other, Beyond) and same(self.run, other.run) and same(self.states, other.states)

    def shows(self, program, one, other):
        """Whether the run and the states are so."""
        _, second = explore_both(program, one, other)
        outcome = end_behind(program, one, self.run)
        if outcome is None or outcome in ends_of(program, other, second):
            return False
        return lists_all(self.states, second)


def explore_both(program, one, other):
    """All states by both rules, for arguments that may be wrong."""
    check_program(program)
    check_rule(one)
    check_rule(other)
    return explore(program, one), explore(program, other)


def judge_within(program, one, other):
    """Whether the first rule is within the other one for a program, with what shows it."""
    first, second = explore_both(program, one, other)
    ends = ends_of(program, one, first)
    runs = runs_of(program, other, second)
    for outcome in ends:
        if outcome not in runs:
            return Beyond(run_to(first, ends[outcome]), list(second))
    return Within({outcome: runs[outcome] for outcome in ends})


def is_within(program, one, other):
    """Whether the first rule is within the other one for a program."""
    return isinstance(judge_within(program, one, other), Within)


def always_within(one, other):
    """Whether the first rule is within the other one for all programs."""
    check_rule(one)
    check_rule(other)
    return other in ALWAYS[one]


def rules_with(program, outcome):
    """The list of the rules by which an outcome comes."""
    check_program(program)
    check_outcome(program, outcome)
    ends = {rule: ends_of(program, rule, explore(program, rule)) for rule in RULES}
    return [rule for rule in RULES if outcome in ends[rule]]
