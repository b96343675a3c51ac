"""Changes of two rows of a hand that nobody can tell, and programs in which they can be told."""

from memoryviews.errors import BadRows, TooLarge
from memoryviews.exploring import ends_of, explore
from memoryviews.machines import check_rule
from memoryviews.programs import NOTHING_HELD, PLACES, PUTS, is_getting, is_program, is_row, place_of, slot_of
from memoryviews.values import frozen, is_between, same

FENCE = ("fence",)
VALUES = (1, 2, 3)
# words of two rows that can be exchanged by queues and by lanes
WAITING_ALIKE = (("get", "fence"), ("fence", "swap"), ("swap", "fence"))


class Harm:
    """A program with two rows next to one another, and an outcome that comes only if they are changed."""

    def __init__(self, program, at, outcome):
        self.program = frozen(program)
        self.at = at
        self.outcome = frozen(outcome)

    def __eq__(self, other):
        if not isinstance(other, Harm) or not same(self.program, other.program):
            return False
        return same(self.at, other.at) and same(self.outcome, other.outcome)

    def shows(self, rule, one, other, leaving):
        """Whether the rows stand there, and the outcome comes only if they are exchanged, or the first one left out."""
        check_rows(rule, one, other)
        if not has_rows(self.program, self.at, one, other):
            return False
        outcomes = new_outcomes(rule, self.program, changed(self.program, self.at, leaving))
        return any([same(self.outcome, outcome) for outcome in outcomes])


def value_of(row):
    """The value of a row, None if it has none."""
    return row[-1] if row[0] in ("put", "swap") else None


def is_changeable(thing):
    """Whether a value is a row other than only, whose value is from 1 to 3."""
    return is_row(thing, 0) and value_of(thing) != 0


def check_rows(rule, one, other):
    """Raise an error for what is no rule, or are no two rows that can be changed."""
    check_rule(rule)
    if not is_changeable(one) or not is_changeable(other):
        raise BadRows("not two rows other than only, with values from 1 to 3")


def is_harmless(rule, one, other, leaving):
    """Whether it is harmless to exchange two rows, or to leave out the first one."""
    check_rows(rule, one, other)
    return can_leave_out(rule, one, other) if leaving else can_exchange(rule, one, other)


def can_exchange(rule, one, other):
    """Whether it is harmless to exchange two rows."""
    if one == other:
        return True
    if rule == "one":
        return one == FENCE or other == FENCE
    if one[0] in PUTS and other[0] == "get":
        return place_of(one) != place_of(other) and (one[0] == "put" or one[2] != other[1])
    if rule == "views":
        return False
    if (one[0], other[0]) in WAITING_ALIKE:
        return True
    if rule == "queues":
        return one == FENCE and other[0] in PUTS
    return one[0] in PUTS and other[0] in PUTS and place_of(one) != place_of(other)


def can_leave_out(rule, one, other):
    """Whether it is harmless to leave out the first one of two rows."""
    if one[0] in PUTS:
        return other[0] in PUTS and place_of(one) == place_of(other)
    if one[0] == "get":
        return is_getting(other) and one[1] == other[1]
    if one == FENCE:
        return other == FENCE or rule == "one" or (other[0] == "swap" and rule in ("queues", "lanes"))
    return False


def exchange(rule, one, other):
    """A harm of exchanging two rows, None if this is harmless."""
    return harm_of(rule, one, other, False)


def leave_out(rule, one, other):
    """A harm of leaving out the first one of two rows, None if this is harmless."""
    return harm_of(rule, one, other, True)


def harm_of(rule, one, other, leaving):
    """A harm of exchanging two rows, or of leaving out the first one, None if this is harmless."""
    if is_harmless(rule, one, other, leaving):
        return None
    for ahead, behind, others in surroundings(one, other):
        program = (ahead + (one, other) + behind,) + others
        outcomes = new_outcomes(rule, program, changed(program, len(ahead), leaving))
        if outcomes:
            return Harm(program, len(ahead), outcomes[0])
    return None


def has_rows(program, at, one, other):
    """Whether something is a program without any only, in whose first hand two rows stand at an index."""
    if not is_program(program) or not is_between(at, 0, len(program[0]) - 2):
        return False
    if any([row[0] == "only" for hand in program for row in hand]):
        return False
    return same(program[0][at:at + 2], (one, other))


def changed(program, at, leaving):
    """A program in which two rows of the first hand are exchanged, or the first one of them is left out."""
    rows = program[0]
    kept = rows[at + 1:at + 2] if leaving else rows[at + 1:at + 2] + rows[at:at + 1]
    return (rows[:at] + kept + rows[at + 2:],) + program[1:]


def new_outcomes(rule, program, other):
    """The list of the outcomes that another program has, but a program has not; none if there are too many states."""
    try:
        ends = ends_of(program, rule, explore(program, rule))
        return [outcome for outcome in ends_of(other, rule, explore(other, rule)) if outcome not in ends]
    except TooLarge:
        return []


def named_first(named, many):
    """The list of so many numbers from 0, with those first that are named."""
    own = [number for at, number in enumerate(named) if number is not None and number not in named[:at]]
    return own + [number for number in range(many) if number not in own]


def giving(one, other, values):
    """Rows that make the registers that two rows give hold different ones of these values, and let nothing wait."""
    given = [row[2] for row in (one, other) if row[0] == "give"]
    place = named_first([place_of(one), place_of(other)], PLACES)[-1]
    rows = []
    for at, slot in enumerate(given):
        rows.extend([("swap", slot, place, values[at]), ("swap", slot, place, 0)])
    return tuple(rows)


def surroundings(one, other):
    """What to try around two rows: triples of rows ahead of them, rows behind them, and other hands.

    For each two rows, and each rule, to change them does harm in one of these, unless it is harmless.
    """
    here, there = named_first([place_of(one), place_of(other)], PLACES)[:2]
    free = named_first([slot_of(one), slot_of(other)], len(NOTHING_HELD))[-1]
    values = [value for value in VALUES if value not in (value_of(one), value_of(other))]
    first = giving(one, other, values)
    put_here, put_there = ("put", here, values[-1]), ("put", there, values[-1])
    get_here, get_there = ("get", free, here), ("get", free, there)
    return [
        # a get ahead, a put behind, and a hand that gets where this puts, and puts where this gets
        (first + (get_here,), (put_there,), ((get_there, put_here),)),
        # two hands that each put, and then get where the other one puts
        (first + (put_here,), (get_there,), ((put_there, FENCE, get_here),)),
        # a put ahead, and a hand that gets there in the end
        (first + (put_there,), (), ((put_here, FENCE, get_there),)),
        # a hand that puts at both places in the opposite order
        (first, (), ((put_there, FENCE, put_here),)),
        # a get behind, a hand that puts at the first place, and one that puts where this gets, and then gets there
        (first, (get_there,), ((put_here,), (put_there, FENCE, get_here))),
    ]
