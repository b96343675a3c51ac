"""What a hand knows of the others when it stands somewhere: how far they have come at least."""

from memoryviews.errors import BadStand
from memoryviews.exploring import explore, last_state, run_to
from memoryviews.machines import check_rule
from memoryviews.programs import check_hand, check_program, is_held
from memoryviews.values import frozen, is_between, is_tuple_of, listed, lists_all, same


class Known:
    """How far each hand has come at least when a hand stands so, and for each a run to where it is just so far."""

    def __init__(self, rows, runs):
        self.rows = frozen(rows)
        self.runs = tuple([listed(run) for run in runs])

    def __eq__(self, other):
        return isinstance(other, Known) and same(self.rows, other.rows) and same(self.runs, other.runs)

    def shows(self, program, rule, hand, stand):
        """Whether no hand has ever come less far, and each run leads to where its hand has come just so far."""
        fitting = fitting_among(explore_stand(program, rule, hand, stand), hand, stand)
        if not fitting or not same(self.rows, least_among(program, fitting)):
            return False
        if not is_tuple_of(self.runs, len(program)):
            return False
        states = [last_state(program, rule, run) for run in self.runs]
        return all([state is not None and state[0][hand] == stand and state[0][other][0] == at
                    for other, (state, at) in enumerate(zip(states, self.rows))])


class NoStand:
    """All states that come about, in none of which a hand stands so."""

    def __init__(self, states):
        self.states = listed(states)

    def __eq__(self, other):
        return isinstance(other, NoStand) and same(self.states, other.states)

    def shows(self, program, rule, hand, stand):
        """Whether the states are all that come about, and the hand stands so in none of them."""
        origins = explore_stand(program, rule, hand, stand)
        return lists_all(self.states, origins) and not fitting_among(origins, hand, stand)


def explore_hand(program, rule, hand):
    """All states that come about, for arguments that may be wrong."""
    check_program(program)
    check_rule(rule)
    check_hand(program, hand)
    return explore(program, rule)


def explore_stand(program, rule, hand, stand):
    """The same, with a stand that may be wrong."""
    check_program(program)
    check_rule(rule)
    check_hand(program, hand)
    if not is_tuple_of(stand, 2) or not is_between(stand[0], 0, len(program[hand])) or not is_held(stand[1]):
        raise BadStand("no pair of the index of a row of the hand, and what its registers hold")
    return explore(program, rule)


def fitting_among(states, hand, stand):
    """The list of those of the states in which a hand stands so."""
    return [state for state in states if state[0][hand] == stand]


def least_among(program, states):
    """A tuple with the least index for each hand of its next row in some states."""
    return tuple([min([state[0][hand][0] for state in states]) for hand in range(len(program))])


def judge_knowing(program, rule, hand, stand):
    """What a hand knows when it stands so, or all states if it never does."""
    origins = explore_stand(program, rule, hand, stand)
    fitting = fitting_among(origins, hand, stand)
    if not fitting:
        return NoStand(list(origins))
    rows = least_among(program, fitting)
    runs = []
    for other, at in enumerate(rows):
        least = [state for state in fitting if state[0][other][0] == at]
        runs.append(run_to(origins, least[0]))
    return Known(rows, runs)


def least_rows(program, rule, hand, stand):
    """How far each hand has come at least when a hand stands so, None if it never does."""
    judged = judge_knowing(program, rule, hand, stand)
    return judged.rows if isinstance(judged, Known) else None


def stands_of(program, rule, hand):
    """The ascending list of all stands of a hand in states that come about."""
    return sorted({state[0][hand] for state in explore_hand(program, rule, hand)})
