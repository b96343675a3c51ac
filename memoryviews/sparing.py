"""Fences that can go: the fewest of a program that keep all attacks, or all partings, away."""

from itertools import combinations

from memoryviews.breaches import breach_in, breaches_by, check_breached, check_size, is_breach, shows_breaches
from memoryviews.errors import TooLarge
from memoryviews.values import frozen, listed, run_table, same

MOST_FENCES = 6


class Kept:
    """A choice of fences that is enough, and for each one with fewer fences an attack or a parting."""

    def __init__(self, fences, against):
        self.fences = frozen(fences)
        self.against = run_table(against)

    def __eq__(self, other):
        return isinstance(other, Kept) and same(self.fences, other.fences) and same(self.against, other.against)

    def shows(self, program, rule):
        """Whether the choice is enough, and none with fewer fences is."""
        choices = choices_by(program, rule)
        if not any([same(self.fences, choice) for choice in choices]):
            return False
        bare = keeping(program, ())
        if breach_in(bare, breaches_by(bare, rule), keeping(program, self.fences)) is not None:
            return False
        fewer = [choice for choice in choices if len(choice) < len(self.fences)]
        return shows_breaches(rule, self.against, {choice: keeping(program, choice) for choice in fewer})


class Unkept:
    """An attack or a parting in the program itself."""

    def __init__(self, stretches):
        self.stretches = listed(stretches)

    def __eq__(self, other):
        return isinstance(other, Unkept) and same(self.stretches, other.stretches)

    def shows(self, program, rule):
        """Whether the stretches are so."""
        choices_by(program, rule)
        return is_breach(program, rule, self.stretches)


def fences_in(program):
    """The ascending list of all fences of a program."""
    return [(hand, at) for hand, rows in enumerate(program) for at, row in enumerate(rows) if row[0] == "fence"]


def keeping(program, choice):
    """The program that keeps the fences of a choice."""
    dropped = [fence for fence in fences_in(program) if fence not in choice]
    return tuple([tuple([row for at, row in enumerate(rows) if (hand, at) not in dropped])
                  for hand, rows in enumerate(program)])


def choices_by(program, rule):
    """The list of all choices in their order, for arguments that may be wrong."""
    check_breached(program, rule)
    fences = fences_in(program)
    if len(fences) > MOST_FENCES:
        raise TooLarge("too many fences")
    check_size(keeping(program, ()), rule)
    return [choice for many in range(len(fences) + 1) for choice in combinations(fences, many)]


def spare(program, rule):
    """The fewest fences with which there is no attack or parting, with what shows it."""
    choices = choices_by(program, rule)
    bare = keeping(program, ())
    breaches = breaches_by(bare, rule)
    against = {}
    for choice in choices:
        stretches = breach_in(bare, breaches, keeping(program, choice))
        if stretches is None:
            return Kept(choice, {other: against[other] for other in against if len(other) < len(choice)})
        against[choice] = stretches
    return Unkept(against[choices[-1]])


def fewest_fences(program, rule):
    """How many fences are enough, None if all are not."""
    judged = spare(program, rule)
    return len(judged.fences) if isinstance(judged, Kept) else None
