"""Programs that are as by one: what can be told of them can be told in a line."""

from memoryviews.circles import doings_of, steps_between
from memoryviews.letting import PLAIN, circle_against, is_against
from memoryviews.stories import copy_of, count_stories, outcome_told
from memoryviews.telling import let_by, mark_of, stories_by
from memoryviews.values import in_line, is_tuple_of, listed, lists_all, same


class Lined:
    """For each story that a rule lets, a line of its doings, in which each step leads to a later one."""

    def __init__(self, lines):
        self.lines = copied_lines(lines)

    def __eq__(self, other):
        return isinstance(other, Lined) and same(self.lines, other.lines)

    def shows(self, program, rule):
        """Whether the lines are for just all stories that the rule lets."""
        return shows_lines(program, rule, self.lines)


class Loose:
    """A story that a rule lets, and a circle in it against one."""

    def __init__(self, story, circle):
        self.story = copy_of(story)
        self.circle = listed(circle)

    def __eq__(self, other):
        return isinstance(other, Loose) and same(self.story, other.story) and same(self.circle, other.circle)

    def shows(self, program, rule):
        """Whether the rule lets the story, and the circle is one against one."""
        count_stories(program, rule)
        return is_loose(program, rule, self.story, self.circle)


def copied_lines(lines):
    """A new list of pairs of a story and a line, with a copy of each."""
    return [(copy_of(story), listed(line)) for story, line in lines]


def is_loose(program, rule, story, circle):
    """Whether something is a story that a rule lets, with a circle against one."""
    if outcome_told(program, rule, story) is None or circle_against(program, rule, story) is not None:
        return False
    return is_against(program, "one", story, circle)


def shows_lines(program, rule, lines):
    """Whether something is a list with a line for just each story that a rule lets, for arguments that may be wrong."""
    let = {mark_of(story): True for story, _ in let_by(program, rule)}
    if not isinstance(lines, list) or len(lines) != len(let):
        return False
    if not all([is_lined(program, rule, row) for row in lines]):
        return False
    return {mark_of(story): True for story, _ in lines} == let


def is_lined(program, rule, row):
    """Whether something is a pair of a story of a program and a line for it."""
    if not is_tuple_of(row, 2) or outcome_told(program, rule, row[0]) is None:
        return False
    story, line = row
    if not lists_all(line, doings_of(story)):
        return False
    ranks = {doing: rank for rank, doing in enumerate(line)}
    return all([ranks[doing] < ranks[target] for doing, target in plain_steps(story)])


def plain_steps(story):
    """The list of the steps that a line keeps: pairs of a doing that is no first and the one that it leads to."""
    steps = [(doing, target) for doing, word, target in steps_between(story) if word in PLAIN]
    return [(doing, target) for doing, target in steps if doing[0] is not None]


def line_of(story):
    """A line of all doings of a story that has no circle against one."""
    targets = {doing: [] for doing in doings_of(story)}
    for doing, target in plain_steps(story):
        targets[doing].append(target)
    return in_line(targets)


def judge_lines(program, rule):
    """Whether a program is as by one, with what shows it."""
    lines = []
    for story, _ in stories_by(program, rule):
        if circle_against(program, rule, story) is None:
            circle = circle_against(program, "one", story)
            if circle is not None:
                return Loose(story, circle)
            lines.append((story, line_of(story)))
    return Lined(lines)


def is_as_by_one(program, rule):
    """Whether a program is as by one."""
    return isinstance(judge_lines(program, rule), Lined)
