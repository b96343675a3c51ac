"""Schemes of fences."""

from memoryviews.errors import BadProgram, BadScheme
from memoryviews.exploring import end_behind, ends_of, explore, never_comes, run_to
from memoryviews.machines import check_rule
from memoryviews.programs import is_program
from memoryviews.values import frozen, listed, same

MOST_ROWS = 5
SCHEMES = ("puts", "gets", "both", "all", "aheads", "behinds", "most")
# the rows directly ahead of which a fence comes in, and those directly behind which
AHEAD = {
    "puts": (),
    "gets": ("get",),
    "both": ("get",),
    "all": (),
    "aheads": ("put", "give"),
    "behinds": ("swap",),
    "most": ("put", "give", "swap"),
}
BEHIND = {
    "puts": ("put", "give"),
    "gets": (),
    "both": ("put", "give"),
    "all": ("put", "give", "get", "swap"),
    "aheads": (),
    "behinds": ("get", "swap"),
    "most": ("get", "swap"),
}
ENOUGH = {
    "one": ("puts", "gets", "both", "all", "aheads", "behinds", "most"),
    "queues": ("puts", "gets", "both", "all"),
    "lanes": ("puts", "both", "all"),
    "views": ("all",),
}
# two programs, each with an outcome that does not come by one: a later put is read before an earlier one; and the
# put of the first hand is read by the second one, which comes ahead of the third one, but not by the third one
LETTERS = ((("put", 0, 1), ("put", 1, 1)), (("get", 0, 1), ("get", 1, 0)))
LATE = (((0, 0, 0), (1, 0, 0)), (1, 1, 0, 0))
SWAPPED = ((("put", 0, 1),), (("get", 0, 0), ("swap", 1, 1, 2)), (("put", 1, 1), ("get", 0, 0)))
PASSED = (((0, 0, 0), (1, 0, 0), (0, 0, 0)), (1, 1, 0, 0))


class Enough:
    """A scheme is enough by a rule."""

    def __eq__(self, other):
        return isinstance(other, Enough)

    def shows(self, scheme, rule):
        """Whether it is so."""
        check_scheme(scheme)
        check_rule(rule)
        return scheme in ENOUGH[rule]


class Against:
    """A program, and a whole run of it with a scheme, whose outcome is none by one without the scheme."""

    def __init__(self, program, run):
        self.program = frozen(program)
        self.run = listed(run)

    def __eq__(self, other):
        return isinstance(other, Against) and same(self.program, other.program) and same(self.run, other.run)

    def shows(self, scheme, rule):
        """Whether the run is so, and not too many states of the program come about by one."""
        check_scheme(scheme)
        check_rule(rule)
        if not is_short(self.program):
            return False
        outcome = end_behind(fenced_program(self.program, scheme), rule, self.run)
        return outcome is not None and never_comes(self.program, "one", outcome)


def is_short(thing):
    """Whether a value is a program into which a scheme can put fences."""
    return is_program(thing) and all([len(hand) <= MOST_ROWS for hand in thing])


def check_scheme(scheme):
    """Raise BadScheme for what is no scheme."""
    if not isinstance(scheme, str) or scheme not in SCHEMES:
        raise BadScheme("no scheme")


def with_scheme(program, scheme):
    """The program with the fences of a scheme."""
    if not is_short(program):
        raise BadProgram("no program of hands with at most five rows")
    check_scheme(scheme)
    return fenced_program(program, scheme)


def fenced_program(program, scheme):
    """The same for what surely are a program and a scheme."""
    return tuple([fenced_hand(hand, scheme) for hand in program])


def fenced_hand(hand, scheme):
    """The rows of a hand with the fences of a scheme."""
    rows = []
    for at, row in enumerate(hand):
        if row[0] in AHEAD[scheme]:
            rows.append(("fence",))
        rows.append(grown(hand, at, scheme))
        if row[0] in BEHIND[scheme]:
            rows.append(("fence",))
    return tuple(rows)


def grown(hand, at, scheme):
    """A row of a hand; if it is an only, it leaves out the fences of the rows that it leaves out, too."""
    row = hand[at]
    if row[0] != "only":
        return row
    left_out = hand[at + 1:at + 1 + row[3]]
    ahead = [that for that in left_out if that[0] in AHEAD[scheme]]
    behind = [that for that in left_out if that[0] in BEHIND[scheme]]
    return ("only", row[1], row[2], row[3] + len(ahead) + len(behind))


def judge_scheme(scheme, rule):
    """Whether a scheme is enough by a rule, with what shows that it is not."""
    check_scheme(scheme)
    check_rule(rule)
    if scheme in ENOUGH[rule]:
        return Enough()
    program, outcome = SWAPPED, PASSED
    if rule == "lanes" and scheme == "gets":
        # here the fences ahead of the gets are enough for the other program
        program, outcome = LETTERS, LATE
    fenced = fenced_program(program, scheme)
    origins = explore(fenced, rule)
    return Against(program, run_to(origins, ends_of(fenced, rule, origins)[outcome]))


def is_enough(scheme, rule):
    """Whether a scheme is enough by a rule."""
    check_scheme(scheme)
    check_rule(rule)
    return scheme in ENOUGH[rule]


def schemes_for(rule):
    """The list of the schemes that are enough by a rule."""
    check_rule(rule)
    return [scheme for scheme in SCHEMES if scheme in ENOUGH[rule]]
