"""Programs that nobody can tell apart by their outcomes."""

from memoryviews.errors import BadTwins
from memoryviews.exploring import end_behind, ends_of, explore, run_to
from memoryviews.machines import check_rule
from memoryviews.programs import check_program
from memoryviews.values import frozen, is_between, listed, same


class Parted:
    """An outcome that only one of two programs has, and a whole run of this one with it."""

    def __init__(self, outcome, which, run):
        self.outcome = frozen(outcome)
        self.which = which
        self.run = listed(run)

    def __eq__(self, other):
        if not isinstance(other, Parted) or not same(self.outcome, other.outcome):
            return False
        return same(self.which, other.which) and same(self.run, other.run)

    def shows(self, one, other, rule):
        """Whether the run of the one program has the outcome, and none of the other one has it."""
        origins = explore_twins(one, other, rule)
        if not is_between(self.which, 0, 1):
            return False
        programs = (one, other)
        outcome = end_behind(programs[self.which], rule, self.run)
        if outcome is None or not same(outcome, self.outcome):
            return False
        return outcome not in ends_of(programs[1 - self.which], rule, origins[1 - self.which])


def explore_twins(one, other, rule):
    """All states of both programs, for arguments that may be wrong."""
    check_program(one)
    check_program(other)
    if len(one) != len(other):
        raise BadTwins("not as many hands")
    check_rule(rule)
    return explore(one, rule), explore(other, rule)


def compare(one, other, rule):
    """An outcome that only one of two programs has, None if they are twins."""
    origins = explore_twins(one, other, rule)
    ends = (ends_of(one, rule, origins[0]), ends_of(other, rule, origins[1]))
    for which in range(2):
        for outcome in ends[which]:
            if outcome not in ends[1 - which]:
                return Parted(outcome, which, run_to(origins[which], ends[which][outcome]))
    return None


def are_twins(one, other, rule):
    """Whether two programs are twins."""
    return compare(one, other, rule) is None
