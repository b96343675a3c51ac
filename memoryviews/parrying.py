"""The cheapest fences with which there is no attack, or no parting."""

from memoryviews.breaches import breach_in, breaches_by, check_breached, check_size, shows_breaches
from memoryviews.fencing import all_choices, cheaper_than, check_prices, cost_of, with_fences
from memoryviews.values import frozen, run_table, same

MOST_GAPS = 6


class Parried:
    """A choice of fences that is enough, and for each one that costs less an attack or a parting."""

    def __init__(self, choice, against):
        self.choice = frozen(choice)
        self.against = run_table(against)

    def __eq__(self, other):
        return isinstance(other, Parried) and same(self.choice, other.choice) and same(self.against, other.against)

    def shows(self, program, rule, prices):
        """Whether the choice is enough, and none that costs less is."""
        choices = choices_by(program, rule, prices)
        if not any([same(self.choice, choice) for choice in choices]):
            return False
        if breach_in(program, breaches_by(program, rule), with_fences(program, self.choice)) is not None:
            return False
        return shows_breaches(rule, self.against, fenced_by(program, cheaper_than(self.choice, choices, prices)))


class Unparried:
    """For each choice of fences an attack or a parting."""

    def __init__(self, against):
        self.against = run_table(against)

    def __eq__(self, other):
        return isinstance(other, Unparried) and same(self.against, other.against)

    def shows(self, program, rule, prices):
        """Whether there is one for just all choices."""
        return shows_breaches(rule, self.against, fenced_by(program, choices_by(program, rule, prices)))


def choices_by(program, rule, prices):
    """The list of all choices in their order, for arguments that may be wrong."""
    check_breached(program, rule)
    check_prices(program, prices, MOST_GAPS)
    check_size(program, rule)
    return all_choices(prices)


def fenced_by(program, choices):
    """A dict from choices to the program with the fences of each."""
    return {choice: with_fences(program, choice) for choice in choices}


def parry(program, rule, prices):
    """The cheapest choice with which there is no attack or parting, with what shows it."""
    choices = choices_by(program, rule, prices)
    breaches = breaches_by(program, rule)
    against = {}
    for choice in choices:
        stretches = breach_in(program, breaches, with_fences(program, choice))
        if stretches is None:
            return Parried(choice, {other: against[other] for other in cheaper_than(choice, choices, prices)})
        against[choice] = stretches
    return Unparried(against)


def least_parry(program, rule, prices):
    """What the cheapest choice costs, None if there is none."""
    judged = parry(program, rule, prices)
    return cost_of(judged.choice, prices) if isinstance(judged, Parried) else None
