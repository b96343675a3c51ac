"""Breaches: attacks and partings, and the fences that end them."""

from memoryviews.attacks import attacks_by, is_attack, loose_by
from memoryviews.errors import BadRule
from memoryviews.partings import check_few, free_parts, is_parting, partings_in
from memoryviews.programs import check_program
from memoryviews.stretches import check_bare, check_plain, doings_in, has_fence
from memoryviews.values import lists_all


def check_breached(program, rule):
    """Raise an error for what is no program, or no rule with attacks or partings, or has rows that do not fit it."""
    check_program(program)
    if not isinstance(rule, str) or rule not in ("queues", "lanes", "views"):
        raise BadRule("neither queues, lanes nor views")
    if rule == "views":
        check_bare(program)
    else:
        check_plain(program)


def check_size(program, rule):
    """Raise TooLarge for a program with too many stretches."""
    if rule == "views":
        check_few(program)
    else:
        loose_by(program, rule)


def is_breach(program, rule, stretches):
    """Whether something is a list of the stretches of an attack, or by views of a parting."""
    return is_parting(program, stretches) if rule == "views" else is_attack(program, rule, stretches)


def breaches_by(program, rule):
    """Pairs of stretches, between the doings of each of which there is no fence, and a whole attack or parting.

    Whatever fences come in, there is still an attack or a parting exactly if one of these has none of them between.
    """
    if rule != "views":
        return [([stretches[0]], stretches) for stretches in attacks_by(program, rule)]
    found = {tuple(part): ring for ring in partings_in(program) for part in free_parts(program, ring)}
    return [(list(part), found[part]) for part in found]


def breach_in(program, breaches, other):
    """The stretches of one of the breaches in a program that differs by its fences alone, None if they end all."""
    doings = {doing: moved for doing, moved in zip(doings_in(program), doings_in(other))}
    for free, stretches in breaches:
        if not any([has_fence(other, (doings[one], doings[last])) for one, last in free]):
            return [(doings[one], doings[last]) for one, last in stretches]
    return None


def shows_breaches(rule, against, programs):
    """Whether something is a dict from just the same choices as another one, to a breach in the program of each."""
    if not isinstance(against, dict) or not lists_all(list(against), programs):
        return False
    return all([is_breach(programs[choice], rule, against[choice]) for choice in against])
