"""Views with a depth: only the last messages of a place can be got."""

from memoryviews.errors import BadDepth
from memoryviews.exploring import end_behind, ends_of, explore, explored, runs_of, steps_in
from memoryviews.machines import next_row, start_of
from memoryviews.programs import check_program, is_getting, place_of
from memoryviews.values import is_between, lists_all, run_table, same

GREATEST_DEPTH = 64


class Deep:
    """The least depth with which all outcomes come, and for each lesser one a run that is lost."""

    def __init__(self, number, lost):
        self.number = number
        self.lost = run_table(lost)

    def __eq__(self, other):
        return isinstance(other, Deep) and same(self.number, other.number) and same(self.lost, other.lost)

    def shows(self, program):
        """Whether the number and the runs are so."""
        ends = ends_of(program, "views", explore_views(program))
        if not is_between(self.number, 1, GREATEST_DEPTH) or not isinstance(self.lost, dict):
            return False
        if not lists_all(list(self.lost), list(range(1, self.number))):
            return False
        if len(ends_within(program, self.number)) < len(ends):
            return False
        return all([is_lost(program, depth, self.lost[depth]) for depth in self.lost])


def is_lost(program, depth, run):
    """Whether a run is a whole one without a depth, whose outcome does not come with the depth."""
    outcome = end_behind(program, "views", run)
    return outcome is not None and outcome not in ends_within(program, depth)


def explore_views(program):
    """All states that come about without a depth, for what may be no program."""
    check_program(program)
    return explore(program, "views")


def is_near(program, state, deed, depth):
    """Whether a deed gets nothing, or one of as many last messages as the depth."""
    row = next_row(program, state, deed[1])
    return not is_getting(row) or deed[2] >= len(state[1][place_of(row)]) - depth


def steps_within(program, state, depth):
    """All pairs of a deed that can be done in a state with a depth and the state behind it."""
    steps = steps_in(program, "views", state)
    return [(deed, behind) for deed, behind in steps if is_near(program, state, deed, depth)]


def ends_within(program, depth):
    """A dict from all outcomes with a depth, ascending."""
    origins = explored(start_of(program, "views"), lambda state: steps_within(program, state, depth))
    return ends_of(program, "views", origins)


def outcomes_within(program, depth):
    """The ascending list of the outcomes with a depth."""
    check_program(program)
    if not is_between(depth, 1, GREATEST_DEPTH):
        raise BadDepth("no depth")
    return list(ends_within(program, depth))


def missing_within(program, depth, runs):
    """The list of those of the outcomes that do not come with a depth."""
    ends = ends_within(program, depth)
    return [outcome for outcome in runs if outcome not in ends]


def judge_depth(program):
    """The least depth with which all outcomes come, with what shows that there is no lesser one."""
    runs = runs_of(program, "views", explore_views(program))
    depth = 1
    lost = {}
    while missing := missing_within(program, depth, runs):
        lost[depth] = runs[missing[0]]
        depth += 1
    return Deep(depth, lost)


def least_depth(program):
    """The least depth with which all outcomes come, as a number."""
    return judge_depth(program).number
