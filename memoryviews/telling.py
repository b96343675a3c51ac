"""Outcomes told by stories."""

from memoryviews.letting import circle_against, is_against
from memoryviews.machines import check_rule
from memoryviews.programs import check_outcome, check_program
from memoryviews.stories import all_stories, copy_of, outcome_told
from memoryviews.values import is_tuple_of, listed, same


class Told:
    """A story with an outcome, which the rule lets."""

    def __init__(self, story):
        self.story = copy_of(story)

    def __eq__(self, other):
        return isinstance(other, Told) and same(self.story, other.story)

    def shows(self, program, rule, outcome):
        """Whether the story has the outcome, and the rule lets it."""
        stories_for(program, rule, outcome)
        if outcome_told(program, rule, self.story) != outcome:
            return False
        return circle_against(program, rule, self.story) is None


class Barred:
    """All stories with an outcome, each with a circle against the rule."""

    def __init__(self, rows):
        self.rows = [(copy_of(story), listed(circle)) for story, circle in rows]

    def __eq__(self, other):
        return isinstance(other, Barred) and same(self.rows, other.rows)

    def shows(self, program, rule, outcome):
        """Whether the rows have just all stories with the outcome, and the circles are against the rule."""
        stories = stories_for(program, rule, outcome)
        if not isinstance(self.rows, list) or len(self.rows) != len(stories):
            return False
        if not all([is_barred(program, rule, outcome, row) for row in self.rows]):
            return False
        return len({mark_of(story) for story, _ in self.rows}) == len(stories)


def is_barred(program, rule, outcome, row):
    """Whether something is a pair of a story with an outcome and a circle against the rule."""
    if not is_tuple_of(row, 2) or outcome_told(program, rule, row[0]) != outcome:
        return False
    return is_against(program, rule, row[0], row[1])


def mark_of(story):
    """What two stories of one program have in common only if they are equal."""
    reads = tuple([(doing, story.reads[doing]) for doing in sorted(story.reads)])
    return (reads, story.puts, story.fences)


def stories_by(program, rule):
    """All stories of a program by a rule, with their outcomes, for arguments that may be wrong."""
    check_program(program)
    check_rule(rule)
    return all_stories(program, rule)


def stories_for(program, rule, outcome):
    """All stories with an outcome, for arguments that may be wrong."""
    check_program(program)
    check_rule(rule)
    check_outcome(program, outcome)
    return [story for story, end in all_stories(program, rule) if end == outcome]


def let_by(program, rule):
    """All stories that a rule lets, with their outcomes, for arguments that may be wrong."""
    pairs = stories_by(program, rule)
    return [(story, end) for story, end in pairs if circle_against(program, rule, story) is None]


def judge_story(program, rule, outcome):
    """A story with an outcome that the rule lets, or a circle for each story with it."""
    rows = []
    for story in stories_for(program, rule, outcome):
        circle = circle_against(program, rule, story)
        if circle is None:
            return Told(story)
        rows.append((story, circle))
    return Barred(rows)


def is_told(program, rule, outcome):
    """Whether the rule lets a story with an outcome."""
    return isinstance(judge_story(program, rule, outcome), Told)


def outcomes_told(program, rule):
    """The ascending list of the outcomes of all stories that the rule lets."""
    return sorted({end for _, end in let_by(program, rule)})


def count_let(program, rule):
    """The number of the stories that the rule lets."""
    return len(let_by(program, rule))
