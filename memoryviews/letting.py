"""Which stories a rule lets: those without a circle against it."""

from memoryviews.circles import circle_among, is_kept, place_at, steps_between, way_among
from memoryviews.machines import check_rule
from memoryviews.programs import PLACES, check_program
from memoryviews.stories import is_doing, outcome_told
from memoryviews.values import is_tuple_of

# the steps of the circles that a memory without anything in between never has, and those that hands and their
# fences never go against by views, where one step over or past may come in addition
PLAIN = ("row", "read", "over", "past")
FREE = ("row", "read", "fence")
TURNS = ("over", "past")


def is_let(program, rule, story):
    """Whether a story is one of the program by the rule, and the rule lets it."""
    check_program(program)
    check_rule(rule)
    return outcome_told(program, rule, story) is not None and circle_against(program, rule, story) is None


def circle_against(program, rule, story):
    """A circle against a rule in a story of the program, None if there is none."""
    steps = steps_between(story)
    if rule == "views":
        return circle_by_views(steps)
    plain = [step for step in steps if step[1] in PLAIN]
    if rule == "one":
        return circle_among(plain)
    for place in range(PLACES):
        circle = circle_among([step for step in plain if is_at(program, place, step)])
        if circle is not None:
            return circle
    return circle_among([step for step in plain if is_kept(program, rule, step)])


def circle_by_views(steps):
    """A circle of these steps against views, None if there is none."""
    free = [step for step in steps if step[1] in FREE]
    circle = circle_among(free)
    if circle is not None:
        return circle
    for doing, word, target in steps:
        if word in TURNS:
            way = way_among(free, target, doing)
            if way is not None:
                return [(doing, word)] + way
    return None


def is_at(program, place, step):
    """Whether both doings of a step are at a place."""
    return place_at(program, step[0]) == place and place_at(program, step[2]) == place


def are_at(program, place, steps):
    """Whether all doings of some steps are at a place."""
    return all([is_at(program, place, step) for step in steps])


def is_against(program, rule, story, circle):
    """Whether something is a circle against a rule in a story of the program."""
    if not isinstance(circle, list) or len(circle) == 0 or not all([is_link(pair) for pair in circle]):
        return False
    doings = [doing for doing, _ in circle]
    if len({doing for doing in doings}) != len(doings):
        return False
    known = {step: True for step in steps_between(story)}
    steps = [(doing, word, target) for (doing, word), target in zip(circle, doings[1:] + doings[:1])]
    return all([step in known for step in steps]) and is_forbidden(program, rule, steps)


def is_link(thing):
    """Whether a value is a pair of a doing and a word."""
    return is_tuple_of(thing, 2) and is_doing(thing[0]) and isinstance(thing[1], str)


def is_forbidden(program, rule, steps):
    """Whether the steps of a circle make it one against a rule."""
    words = [word for _, word, _ in steps]
    if rule == "views":
        return len([word for word in words if word in TURNS]) <= 1
    if any([word not in PLAIN for word in words]):
        return False
    if rule == "one" or all([is_kept(program, rule, step) for step in steps]):
        return True
    return any([are_at(program, place, steps) for place in range(PLACES)])
