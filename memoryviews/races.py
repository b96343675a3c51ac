"""Races: next rows of two hands that clash."""

from memoryviews.exploring import explore, last_state, run_to
from memoryviews.machines import next_row
from memoryviews.programs import check_program, is_putting, place_of
from memoryviews.values import frozen, listed, lists_all, same


class Race:
    """A run by one, behind which the next rows of two hands clash."""

    def __init__(self, run, hands):
        self.run = listed(run)
        self.hands = frozen(hands)

    def __eq__(self, other):
        return isinstance(other, Race) and same(self.run, other.run) and same(self.hands, other.hands)

    def shows(self, program):
        """Whether it is a run, behind which the next rows of the hands clash."""
        explore_race(program)
        state = last_state(program, "one", self.run)
        return state is not None and any([same(self.hands, hands) for hands in clashes_in(program, state)])


class Raceless:
    """All states that come about by one, in none of which next rows clash."""

    def __init__(self, states):
        self.states = listed(states)

    def __eq__(self, other):
        return isinstance(other, Raceless) and same(self.states, other.states)

    def shows(self, program):
        """Whether the states are all that come about, and no next rows clash in them."""
        origins = explore_race(program)
        return lists_all(self.states, origins) and not any([clashes_in(program, state) for state in origins])


def explore_race(program):
    """All states that come about by one, for what may be no program."""
    check_program(program)
    return explore(program, "one")


def clash(row, other):
    """Whether two rows clash."""
    if place_of(row) is None or place_of(row) != place_of(other):
        return False
    if row[0] == "swap" and other[0] == "swap":
        return False
    return is_putting(row) or is_putting(other)


def clashes_in(program, state):
    """The ascending list of the pairs of hands whose next rows clash in a state."""
    rows = [(hand, next_row(program, state, hand)) for hand in range(len(program))]
    rows = [(hand, row) for hand, row in rows if row is not None]
    return [(hand, other) for hand, row in rows for other, that in rows if hand < other and clash(row, that)]


def judge_race(program):
    """A race of a program, or all states if it has none."""
    origins = explore_race(program)
    for state in origins:
        pairs = clashes_in(program, state)
        if pairs:
            return Race(run_to(origins, state), pairs[0])
    return Raceless(list(origins))


def is_raceless(program):
    """Whether a program has no race."""
    return isinstance(judge_race(program), Raceless)


def races_of(program):
    """The ascending list of all pairs of hands whose next rows clash behind some run by one."""
    origins = explore_race(program)
    return sorted({pair for state in origins for pair in clashes_in(program, state)})
