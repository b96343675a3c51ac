"""What must not be: two rows that are current at once."""

from memoryviews.errors import BadWish
from memoryviews.exploring import explore, last_state, run_to
from memoryviews.machines import check_rule
from memoryviews.programs import check_program
from memoryviews.values import is_tuple_of, is_between, listed, lists_all, same


class Safe:
    """All states that come about, in none of which a wish is broken."""

    def __init__(self, states):
        self.states = listed(states)

    def __eq__(self, other):
        return isinstance(other, Safe) and same(self.states, other.states)

    def shows(self, program, rule, wish):
        """Whether the states are all that come about, and the wish is broken in none of them."""
        origins = explore_wish(program, rule, wish)
        return lists_all(self.states, origins) and not any([is_broken(state, wish) for state in origins])


class Broken:
    """A run behind which a wish is broken."""

    def __init__(self, run):
        self.run = listed(run)

    def __eq__(self, other):
        return isinstance(other, Broken) and same(self.run, other.run)

    def shows(self, program, rule, wish):
        """Whether it is a run, and the wish is broken behind it."""
        explore_wish(program, rule, wish)
        state = last_state(program, rule, self.run)
        return state is not None and is_broken(state, wish)


def is_row_of(program, thing):
    """Whether a value is a pair of a hand and the index of one of its rows."""
    if not is_tuple_of(thing, 2) or not is_between(thing[0], 0, len(program) - 1):
        return False
    return is_between(thing[1], 0, len(program[thing[0]]) - 1)


def check_wish(program, wish):
    """Raise BadWish for what is no wish of a program."""
    if not is_tuple_of(wish, 2) or not all([is_row_of(program, pair) for pair in wish]):
        raise BadWish("no pair of pairs of a hand and a row")
    if wish[0][0] >= wish[1][0]:
        raise BadWish("the first hand is not less than the second one")


def explore_wish(program, rule, wish):
    """All states that come about, for arguments that may be wrong."""
    check_program(program)
    check_rule(rule)
    check_wish(program, wish)
    return explore(program, rule)


def is_broken(state, wish):
    """Whether both rows of a wish are current in a state."""
    return all([state[0][hand][0] == at for hand, at in wish])


def judge_wish(program, rule, wish):
    """Whether a wish is safe or broken, with what shows it."""
    origins = explore_wish(program, rule, wish)
    for state in origins:
        if is_broken(state, wish):
            return Broken(run_to(origins, state))
    return Safe(list(origins))


def is_safe(program, rule, wish):
    """Whether a wish is broken in no state that comes about."""
    return isinstance(judge_wish(program, rule, wish), Safe)
