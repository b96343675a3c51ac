"""How often outcomes come: numbers of whole runs, and chances if each deed is equally likely."""

from math import gcd

from memoryviews.exploring import explore, steps_in
from memoryviews.machines import check_rule, end_of, has_ended, start_of
from memoryviews.programs import check_outcome, check_program
from memoryviews.values import in_line

# a chance is a pair of integers, the lesser one over the greater one
NO_CHANCE = (0, 1)


def check_asked(program, rule):
    """Raise an error for what is no program, or no rule."""
    check_program(program)
    check_rule(rule)


def ways_on(program, rule):
    """A dict from all states that come about to the list of the states behind each deed."""
    return {state: [behind for _, behind in steps_in(program, rule, state)] for state in explore(program, rule)}


def added(one, other):
    """The sum of two chances, in lowest terms."""
    top = one[0] * other[1] + other[0] * one[1]
    bottom = one[1] * other[1]
    common = gcd(top, bottom)
    return (top // common, bottom // common)


def ends_in(program, rule, states):
    """A dict from all outcomes, ascending, to the list of the states each that are over with it."""
    found = {}
    for state in states:
        if has_ended(program, rule, state):
            found.setdefault(end_of(rule, state), []).append(state)
    return {outcome: found[outcome] for outcome in sorted(found)}


def chances(program, rule):
    """A dict from all outcomes, ascending, to their chances."""
    check_asked(program, rule)
    ways = ways_on(program, rule)
    known = {state: NO_CHANCE for state in ways}
    known[start_of(program, rule)] = (1, 1)
    for state in in_line(ways):
        top, bottom = known[state]
        for behind in ways[state]:
            known[behind] = added(known[behind], (top, bottom * len(ways[state])))
    ends = ends_in(program, rule, ways)
    found = {outcome: NO_CHANCE for outcome in ends}
    for outcome in ends:
        for state in ends[outcome]:
            found[outcome] = added(found[outcome], known[state])
    return found


def run_counts(program, rule):
    """A dict from all outcomes, ascending, to the numbers of the whole runs with them."""
    check_asked(program, rule)
    ways = ways_on(program, rule)
    known = {state: 0 for state in ways}
    known[start_of(program, rule)] = 1
    for state in in_line(ways):
        for behind in ways[state]:
            known[behind] += known[state]
    ends = ends_in(program, rule, ways)
    return {outcome: sum([known[end] for end in ends[outcome]]) for outcome in ends}


def count_runs(program, rule):
    """The number of all whole runs."""
    return sum(list(run_counts(program, rule).values()))


def chance_of(program, rule, outcome):
    """The chance of an outcome; it is none if it does not come."""
    check_asked(program, rule)
    check_outcome(program, outcome)
    return chances(program, rule).get(outcome, NO_CHANCE)
