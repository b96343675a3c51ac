"""Programs with the fences of a scheme, by one rule, in place of programs without them, by another one."""

from memoryviews.exploring import end_behind, ends_of, explore, never_comes, run_to
from memoryviews.machines import check_rule
from memoryviews.rules import always_within
from memoryviews.schemes import SCHEMES, check_scheme, fenced_program, is_short
from memoryviews.values import frozen, listed, same

# the schemes that keep a goal by a rule, for each pair of a rule and a goal that it is not always within
KEEPING = {
    ("queues", "one"): ("puts", "gets", "both", "all"),
    ("lanes", "one"): ("puts", "both", "all"),
    ("lanes", "queues"): ("puts", "both", "all", "aheads", "most"),
    ("lanes", "views"): ("puts", "both", "all", "aheads", "most"),
    ("views", "one"): ("all",),
    ("views", "queues"): ("all", "most"),
    ("views", "lanes"): ("all", "behinds", "most"),
}
# programs one of which leaks in each other case: each hand puts, and then gets where the other one puts; a later put
# is read before an earlier one; a put is read by a hand that puts ahead of the last hand, which does not read it
# behind a fence; and each hand puts first where the other one puts last, but what was put first is there in the end
LEAKING = (
    ((("put", 0, 1), ("get", 0, 1)), (("put", 1, 1), ("get", 0, 0))),
    ((("put", 0, 1), ("put", 1, 1)), (("get", 0, 1), ("get", 1, 0))),
    ((("put", 0, 1),), (("get", 0, 0), ("swap", 1, 1, 2)), (("put", 1, 1), ("fence",), ("get", 0, 0))),
    ((("put", 0, 1), ("put", 1, 2)), (("put", 1, 1), ("put", 0, 2))),
)


class Kept:
    """A scheme keeps a goal by a rule."""

    def __eq__(self, other):
        return isinstance(other, Kept)

    def shows(self, scheme, rule, goal):
        """Whether it is so."""
        return is_kept(scheme, rule, goal)


class Leaked:
    """A program, and a whole run of it with a scheme, whose outcome is none by the goal without the scheme."""

    def __init__(self, program, run):
        self.program = frozen(program)
        self.run = listed(run)

    def __eq__(self, other):
        return isinstance(other, Leaked) and same(self.program, other.program) and same(self.run, other.run)

    def shows(self, scheme, rule, goal):
        """Whether the run is so, and not too many states of the program come about by the goal."""
        check_case(scheme, rule, goal)
        if not is_short(self.program):
            return False
        outcome = end_behind(fenced_program(self.program, scheme), rule, self.run)
        return outcome is not None and never_comes(self.program, goal, outcome)


def check_case(scheme, rule, goal):
    """Raise an error for what is no scheme, or no rule."""
    check_scheme(scheme)
    check_rule(rule)
    check_rule(goal)


def is_keeping(scheme, rule, goal):
    """Whether a scheme keeps a goal by a rule, for what surely are one and two of these."""
    return always_within(rule, goal) or scheme in KEEPING[(rule, goal)]


def judge_keeping(scheme, rule, goal):
    """Whether a scheme keeps a goal by a rule, with what shows that it does not."""
    check_case(scheme, rule, goal)
    if is_keeping(scheme, rule, goal):
        return Kept()
    for program in LEAKING:
        leak = leak_in(program, scheme, rule, goal)
        if leak is not None:
            return leak
    return None


def leak_in(program, scheme, rule, goal):
    """What a program leaks with a scheme, by a rule instead of a goal, None if it does not."""
    fenced = fenced_program(program, scheme)
    origins = explore(fenced, rule)
    ends = ends_of(fenced, rule, origins)
    known = ends_of(program, goal, explore(program, goal))
    new = [outcome for outcome in ends if outcome not in known]
    return Leaked(program, run_to(origins, ends[new[0]])) if new else None


def is_kept(scheme, rule, goal):
    """Whether a scheme keeps a goal by a rule."""
    check_case(scheme, rule, goal)
    return is_keeping(scheme, rule, goal)


def keeping_schemes(rule, goal):
    """The list of the schemes that keep a goal by a rule."""
    check_rule(rule)
    check_rule(goal)
    return [scheme for scheme in SCHEMES if is_keeping(scheme, rule, goal)]
