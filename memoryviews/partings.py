"""Partings: rings by which a bare program is not as by one, by views."""

from memoryviews.errors import TooLarge
from memoryviews.programs import PUTS, check_program, place_of
from memoryviews.stretches import check_bare, count_doings, has_fence, is_ring, joints_of, meet, row_at, stretches_in
from memoryviews.values import listed, same

MOST_STRETCHES = 60


class Parting:
    """A ring of stretches that is a parting."""

    def __init__(self, stretches):
        self.stretches = listed(stretches)

    def __eq__(self, other):
        return isinstance(other, Parting) and same(self.stretches, other.stretches)

    def shows(self, program):
        """Whether the stretches are so."""
        check_parted(program)
        return is_parting(program, self.stretches)


def check_parted(program):
    """Raise an error for what is no program, no bare one, or has too many stretches."""
    check_program(program)
    check_bare(program)
    check_few(program)


def check_few(program):
    """Raise TooLarge for a program with too many stretches."""
    if len(stretches_in(program)) > MOST_STRETCHES:
        raise TooLarge("too many stretches")


def is_handing(program, joint):
    """Whether a joint is from a put or a give to a get."""
    return row_at(program, joint[0])[0] in PUTS and row_at(program, joint[1])[0] == "get"


def is_parting(program, things):
    """Whether something is a list of the stretches of a parting."""
    return is_ring(program, things) and is_apart(program, things) and len(free_parts(program, things)) > 0


def is_apart(program, ring):
    """Whether the joints of a ring are as those of a parting, and its doings meet nowhere else."""
    joints = joints_of(ring)
    places = [place_of(row_at(program, one)) for one, _ in joints]
    if places == places[:1] * len(places):
        return False
    if len([joint for joint in joints if not is_handing(program, joint)]) < 2:
        return False
    allowed = joints + handed_on(program, ring)
    doings = [doing for stretch in ring for doing in stretch]
    pairs = [(one, other) for one in doings for other in doings if meet(program, one, other)]
    return all([(one, other) in allowed or (other, one) in allowed for one, other in pairs])


def handed_on(program, ring):
    """The list of the pairs of a put and a get that may meet, since the put of the stretch between stands between."""
    found = []
    for stretch, between, behind in zip(ring, ring[1:] + ring[:1], ring[2:] + ring[:2]):
        # in a ring, all three are at the same place then
        if between[0] == between[1] and row_at(program, between[0])[0] in PUTS:
            if is_handing(program, (stretch[1], behind[0])):
                found.append((stretch[1], behind[0]))
    return found


def parts_of(program, ring):
    """The list of the parts of a ring: the stretches from behind each passing to the next one."""
    passings = [at for at, joint in enumerate(joints_of(ring)) if not is_handing(program, joint)]
    twice = ring + ring
    ends = passings[1:] + [at + len(ring) for at in passings[:1]]
    return [twice[at + 1:end + 1] for at, end in zip(passings, ends)]


def free_parts(program, ring):
    """The list of the parts of a ring in which no stretch has a fence between its doings."""
    parts = parts_of(program, ring)
    return [part for part in parts if not any([has_fence(program, stretch) for stretch in part])]


def partings_in(program):
    """The list of all partings of a bare program, each once: beginning with its least hand."""
    stretches = stretches_in(program)
    behind = {one: [other for other in stretches if meet(program, one[1], other[0])] for one in stretches}
    partings = []
    waiting = [[stretch] for stretch in stretches]
    while waiting:
        path = waiting.pop()
        hands = [one[0] for one, _ in path]
        for stretch in behind[path[-1]]:
            if stretch == path[0]:
                if is_apart(program, path) and free_parts(program, path):
                    partings.append(path)
            elif stretch[0][0] > hands[0] and stretch[0][0] not in hands:
                waiting.append(path + [stretch])
    return partings


def parting(program):
    """A parting of a program, None if there is none."""
    check_parted(program)
    partings = partings_in(program)
    return Parting(partings[0]) if partings else None


def is_whole(program):
    """Whether there is no parting."""
    return parting(program) is None


def least_parting(program):
    """How many different doings the stretches of a parting have at least, None if there is none."""
    check_parted(program)
    counts = [count_doings(stretches) for stretches in partings_in(program)]
    return min(counts) if counts else None
