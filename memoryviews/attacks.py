"""Attacks: rings by which a plain program is not as by one, by queues or by lanes."""

from memoryviews.errors import TooLarge
from memoryviews.programs import PUTS, is_putting, place_of
from memoryviews.rooms import check_queued
from memoryviews.stretches import check_plain, count_doings, doings_in, is_ring, meet, row_at, rows_between
from memoryviews.stretches import stretches_in
from memoryviews.values import listed, lists_all, run_table, same

MOST_LOOSE = 40


class Attack:
    """A ring of stretches, the first one of which is loose."""

    def __init__(self, stretches):
        self.stretches = listed(stretches)

    def __eq__(self, other):
        return isinstance(other, Attack) and same(self.stretches, other.stretches)

    def shows(self, program, rule):
        """Whether the stretches are so."""
        check_attacked(program, rule)
        loose_by(program, rule)
        return is_attack(program, rule, self.stretches)


class Calm:
    """For each loose stretch all its chains, whose doings never meet its first doing."""

    def __init__(self, chains):
        self.chains = run_table(chains)

    def __eq__(self, other):
        return isinstance(other, Calm) and same(self.chains, other.chains)

    def shows(self, program, rule):
        """Whether there are just these chains, and none of them leads back to its loose stretch."""
        check_attacked(program, rule)
        loose = loose_by(program, rule)
        if not isinstance(self.chains, dict) or not lists_all(list(self.chains), loose):
            return False
        links = links_in(program)
        known = {stretch: ways_from(stretch, links) for stretch in loose}
        if not all([lists_all(self.chains[stretch], known[stretch]) for stretch in loose]):
            return False
        return not any([meet(program, doing, stretch[0]) for stretch in loose for doing, _ in known[stretch]])


def check_attacked(program, rule):
    """Raise an error for what is no program, none of the two rules with queues, or no plain program."""
    check_queued(program, rule)
    check_plain(program)


def is_loose(program, rule, stretch):
    """Whether a stretch of a plain program is loose."""
    one, other = row_at(program, stretch[0]), row_at(program, stretch[1])
    between = rows_between(program, stretch)
    if one[0] not in PUTS or any([row[0] in ("fence", "swap") for row in between]):
        return False
    if place_of(one) == place_of(other):
        return False
    if rule == "lanes":
        return other[0] == "get" or other[0] in PUTS
    return other[0] == "get" and not any([is_putting(row) and place_of(row) == place_of(other) for row in between])


def loose_by(program, rule):
    """The ascending list of all loose stretches, if there are not too many."""
    loose = [stretch for stretch in stretches_in(program) if is_loose(program, rule, stretch)]
    if len(loose) > MOST_LOOSE:
        raise TooLarge("too many loose stretches")
    return loose


def is_attack(program, rule, stretches):
    """Whether something is a list of the stretches of an attack."""
    return is_ring(program, stretches) and is_loose(program, rule, stretches[0])


def links_in(program):
    """A dict from each doing to stretches whose first doings meet it: one for each second doing, as short as can be."""
    doings = doings_in(program)
    links = {}
    for doing in doings:
        meeting = [other for other in doings if meet(program, doing, other)]
        links[doing] = []
        for last in doings:
            first = [other for other in meeting if other[0] == last[0] and other[1] <= last[1]]
            if first:
                links[doing].append((last if last in first else first[0], last))
    return links


def ways_from(stretch, links):
    """A dict from all chains of a loose stretch to stretches that lead to each, with as few doings as can be."""
    found = {(stretch[1], (stretch[1][0],)): [stretch]}
    near = list(found)
    while near:
        further = {}
        for doing, hands in near:
            for link in links[doing]:
                if link[1][0] not in hands:
                    chain = (link[1], tuple(sorted(hands + (link[1][0],))))
                    way = found[(doing, hands)] + [link]
                    if chain not in further or count_doings(way) < count_doings(further[chain]):
                        further[chain] = way
        found.update(further)
        near = list(further)
    return found


def attacks_by(program, rule):
    """For each loose stretch that begins an attack the one with the fewest doings."""
    loose = loose_by(program, rule)
    links = links_in(program)
    attacks = []
    for stretch in loose:
        ways = ways_from(stretch, links)
        closed = [ways[chain] for chain in ways if meet(program, chain[0], stretch[0])]
        if closed:
            attacks.append(min(closed, key=count_doings))
    return attacks


def judge_attack(program, rule):
    """An attack, or all chains if there is none."""
    check_attacked(program, rule)
    attacks = attacks_by(program, rule)
    if attacks:
        return Attack(attacks[0])
    links = links_in(program)
    return Calm({stretch: list(ways_from(stretch, links)) for stretch in loose_by(program, rule)})


def is_calm(program, rule):
    """Whether there is no attack."""
    check_attacked(program, rule)
    return not attacks_by(program, rule)


def least_attack(program, rule):
    """How many different doings the stretches of an attack have at least, None if there is none."""
    check_attacked(program, rule)
    counts = [count_doings(stretches) for stretches in attacks_by(program, rule)]
    return min(counts) if counts else None
