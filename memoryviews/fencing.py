"""The cheapest fences with which a program is as by one."""

from itertools import combinations

from memoryviews.errors import BadPrices
from memoryviews.lines import Lined, copied_lines, is_loose, judge_lines, shows_lines
from memoryviews.machines import check_rule
from memoryviews.programs import check_program, is_program
from memoryviews.stories import copy_of, count_stories
from memoryviews.values import frozen, is_between, is_tuple_of, listed, lists_all, same

MOST_GAPS = 4
HIGHEST_PRICE = 9


class Cheapest:
    """A choice of fences that is enough, and for each one that costs less a story and a circle against one."""

    def __init__(self, choice, lines, against):
        self.choice = frozen(choice)
        self.lines = copied_lines(lines)
        self.against = copied_against(against)

    def __eq__(self, other):
        if not isinstance(other, Cheapest) or not same(self.choice, other.choice):
            return False
        return same(self.lines, other.lines) and same(self.against, other.against)

    def shows(self, program, rule, prices):
        """Whether the choice is enough, and none that costs less is."""
        choices = choices_by(program, rule, prices)
        if not any([same(self.choice, choice) for choice in choices]):
            return False
        if not shows_against(program, rule, self.against, cheaper_than(self.choice, choices, prices)):
            return False
        return shows_lines(with_fences(program, self.choice), rule, self.lines)


class Unfenced:
    """For each choice of fences a story and a circle against one."""

    def __init__(self, against):
        self.against = copied_against(against)

    def __eq__(self, other):
        return isinstance(other, Unfenced) and same(self.against, other.against)

    def shows(self, program, rule, prices):
        """Whether there is such a story for just all choices."""
        return shows_against(program, rule, self.against, choices_by(program, rule, prices))


def copied_against(against):
    """A new dict from choices to pairs of a story and a circle, with a copy of each."""
    return {choice: (copy_of(against[choice][0]), listed(against[choice][1])) for choice in against}


def shows_against(program, rule, against, choices):
    """Whether something is a dict from just these choices to a story and a circle each, as it must be."""
    if not isinstance(against, dict) or not lists_all(list(against), choices):
        return False
    return all([is_against_choice(program, rule, choice, against[choice]) for choice in against])


def is_against_choice(program, rule, choice, pair):
    """Whether something is a story and a circle that show that a choice is not enough."""
    return is_tuple_of(pair, 2) and is_loose(with_fences(program, choice), rule, pair[0], pair[1])


def is_gap(program, thing):
    """Whether a value is a pair of a hand and an index of a row, or the number of the rows."""
    if not is_tuple_of(thing, 2) or not is_between(thing[0], 0, len(program) - 1):
        return False
    return is_between(thing[1], 0, len(program[thing[0]]))


def check_prices(program, prices, most):
    """Raise BadPrices for what are no prices of at most so many gaps of a program."""
    if not isinstance(prices, dict) or not 1 <= len(prices) <= most:
        raise BadPrices("no dict with as few gaps as that")
    if not all([is_gap(program, gap) and is_between(prices[gap], 1, HIGHEST_PRICE) for gap in prices]):
        raise BadPrices("no gaps with prices")
    if not is_program(with_fences(program, sorted(prices))):
        raise BadPrices("no program with all fences")


def choices_by(program, rule, prices):
    """The list of all choices in their order, for arguments that may be wrong."""
    check_program(program)
    check_rule(rule)
    check_prices(program, prices, MOST_GAPS)
    # no choice has more stories than all gaps: a fence less only takes something out of the orders of fences
    count_stories(with_fences(program, sorted(prices)), rule)
    return all_choices(prices)


def all_choices(prices):
    """The list of all choices, ordered by what they cost, then as tuples."""
    gaps = sorted(prices)
    choices = [choice for many in range(len(gaps) + 1) for choice in combinations(gaps, many)]
    priced = sorted([(cost_of(choice, prices), choice) for choice in choices])
    return [choice for _, choice in priced]


def cost_of(choice, prices):
    """What a choice costs."""
    return sum([prices[gap] for gap in choice])


def cheaper_than(choice, choices, prices):
    """The list of those of the choices that cost less than one."""
    cost = cost_of(choice, prices)
    return [other for other in choices if cost_of(other, prices) < cost]


def with_fences(program, choice):
    """The program with fences put in at the gaps of a choice."""
    hands = []
    for hand, rows in enumerate(program):
        hands.append(filled(rows, [at for where, at in choice if where == hand]))
    return tuple(hands)


def filled(rows, gaps):
    """The rows of a hand, with a fence put in at each of these indices."""
    found = []
    for at, row in enumerate(rows):
        if at in gaps:
            found.append(("fence",))
        found.append(reaching(row, at, gaps))
    if len(rows) in gaps:
        found.append(("fence",))
    return tuple(found)


def reaching(row, at, gaps):
    """The row at an index; if it is an only, it leaves out the fences ahead of the rows that it leaves out, too."""
    if row[0] != "only":
        return row
    return row[:3] + (row[3] + len([gap for gap in gaps if at < gap <= at + row[3]]),)


def cheapest_fences(program, rule, prices):
    """The cheapest choice with which a program is as by one, with what shows it."""
    against = {}
    choices = choices_by(program, rule, prices)
    for choice in choices:
        judged = judge_lines(with_fences(program, choice), rule)
        if isinstance(judged, Lined):
            cheaper = cheaper_than(choice, choices, prices)
            return Cheapest(choice, judged.lines, {other: against[other] for other in cheaper})
        against[choice] = (judged.story, judged.circle)
    return Unfenced(against)


def least_cost(program, rule, prices):
    """What the cheapest choice costs, None if there is none."""
    judged = cheapest_fences(program, rule, prices)
    return cost_of(judged.choice, prices) if isinstance(judged, Cheapest) else None
