"""Stretches, rings, attacks, chains and partings for the tests: everything is tried out, as the document words it.

It shares no code with the package, so that a fault in the one is seen by the other.
"""

from itertools import permutations, product

PLACE = {"put": 1, "give": 1, "get": 2, "swap": 2}


def word(program, doing):
    return program[doing[0]][doing[1]][0]


def place(program, doing):
    row = program[doing[0]][doing[1]]
    return row[PLACE[row[0]]]


def meets(program, one, other):
    """Whether two doings, neither of them a fence, meet."""
    if one[0] == other[0] or place(program, one) != place(program, other):
        return False
    return word(program, one) != "get" or word(program, other) != "get"


def stretches_of(program, hand):
    found = []
    for first in range(len(program[hand])):
        for second in range(first, len(program[hand])):
            if "fence" not in (program[hand][first][0], program[hand][second][0]):
                found.append(((hand, first), (hand, second)))
    return found


def stretches(program):
    return [stretch for hand in range(len(program)) for stretch in stretches_of(program, hand)]


def words_between(program, stretch):
    (hand, first), (_, second) = stretch
    return [program[hand][at][0] for at in range(len(program[hand])) if first < at < second]


def loose(program, rule, stretch):
    first, second = stretch
    if first == second or {"fence", "swap"} & set(words_between(program, stretch)):
        return False
    if word(program, first) not in ("put", "give"):
        return False
    if rule == "lanes":
        return word(program, second) in ("get", "put", "give") and place(program, first) != place(program, second)
    if word(program, second) != "get":
        return False
    return not any(word(program, (first[0], at)) in ("put", "give")
                   and place(program, (first[0], at)) == place(program, second) for at in range(first[1], second[1]))


def all_loose(program, rule):
    return [stretch for stretch in stretches(program) if loose(program, rule, stretch)]


def rings(program):
    """All rings, each as often as it has stretches: beginning with each of them."""
    found = []
    for many in range(2, len(program) + 1):
        for hands in permutations(range(len(program)), many):
            for ring in product(*[stretches_of(program, hand) for hand in hands]):
                if all(meets(program, ring[at - 1][1], ring[at][0]) for at in range(many)):
                    found.append(list(ring))
    return found


def attacks(program, rule):
    return [ring for ring in rings(program) if loose(program, rule, ring[0])]


def chains(program, stretch):
    """All chains of a loose stretch, ascending."""
    found = {(stretch[1], (stretch[1][0],))}
    waiting = list(found)
    while waiting:
        doing, hands = waiting.pop()
        for first, second in stretches(program):
            if first[0] not in hands and meets(program, doing, first):
                chain = (second, tuple(sorted(hands + (first[0],))))
                if chain not in found:
                    found.add(chain)
                    waiting.append(chain)
    return sorted(found)


def doings_count(ring):
    return len({doing for stretch in ring for doing in stretch})


def is_handing(program, one, other):
    return word(program, one) in ("put", "give") and word(program, other) == "get"


def conditions(program, ring):
    """Which of the three conditions of a parting a ring fulfills."""
    many = len(ring)
    joints = [(ring[at][1], ring[(at + 1) % many][0]) for at in range(many)]
    passings = [at for at in range(many) if not is_handing(program, *joints[at])]
    allowed = set(joints)
    for at in range(many):
        (_, put), between, (get, _) = ring[at], ring[(at + 1) % many], ring[(at + 2) % many]
        if is_handing(program, put, get) and between[0] == between[1] and word(program, between[0]) in ("put", "give"):
            if place(program, put) == place(program, between[0]) == place(program, get):
                allowed.add((put, get))
    doings = {doing for stretch in ring for doing in stretch}
    few = all((one, other) in allowed or (other, one) in allowed
              for one in doings for other in doings if meets(program, one, other))
    apart = len({place(program, one) for one, _ in joints}) > 1 and len(passings) >= 2
    free = False
    for at in passings:
        part = []
        step = at
        while not part or step not in passings:
            step = (step + 1) % many
            part.append(ring[step])
        free = free or not any("fence" in words_between(program, stretch) for stretch in part)
    return (few, apart, free)


def partings(program):
    return [ring for ring in rings(program) if all(conditions(program, ring))]


def breaches(program, rule):
    return partings(program) if rule == "views" else attacks(program, rule)
