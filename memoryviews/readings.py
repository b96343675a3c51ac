"""All ways in which the doings of a program can read one another."""

from math import factorial

from memoryviews.errors import TooLarge
from memoryviews.machines import stand_behind
from memoryviews.programs import NOTHING_HELD, PLACES, is_getting, is_putting, place_of, value_put

MOST_STORIES = 600


class Reading:
    """What hands have done so far, in some order, and which doing each of them has read.

    Of all orders in which the same can be read, only the one is followed in which always the first hand goes on
    that can: so nothing is found twice. A hand that does not read what is there waits for what comes later; it
    never reads afterwards what it has left.
    """

    def __init__(self, stands, sources, reads, fences, left):
        self.stands = stands
        # for each place a tuple of pairs of a doing that puts there, and its value
        self.sources = sources
        # a tuple of pairs of a doing and the one that it reads
        self.reads = reads
        self.fences = fences
        # for each hand how many sources at the place of its next row it has left
        self.left = left


def first_reading(program):
    """Nothing done yet, but the firsts."""
    stands = [(0, NOTHING_HELD) for _ in program]
    sources = [(((None, place), 0),) for place in range(PLACES)]
    return Reading(stands, sources, (), (), [0 for _ in program])


def is_whole(program, reading):
    """Whether no hand has a next row."""
    return not any([at < len(rows) for (at, _), rows in zip(reading.stands, program)])


def has_choice(program, reading, hand):
    """Whether a hand has a next row that can be done now, or must be left."""
    at = reading.stands[hand][0]
    if at == len(program[hand]):
        return False
    row = program[hand][at]
    return not is_getting(row) or reading.left[hand] < len(reading.sources[place_of(row)])


def readings_behind(program, reading):
    """The list of the readings that come next, those that leave the most at the end."""
    for hand, rows in enumerate(program):
        if has_choice(program, reading, hand):
            row = rows[reading.stands[hand][0]]
            if not is_getting(row):
                return [done(program, reading, hand, None)]
            choices = [done(program, reading, hand, source) for source in choices_of(reading, hand, row)]
            waiting = leaving_all(reading, hand, place_of(row))
            return choices + [waiting]
    return []


def choices_of(reading, hand, row):
    """The sources that a hand can read now; a swap only those that no other swap has read."""
    sources = reading.sources[place_of(row)]
    fresh = sources[reading.left[hand]:]
    if row[0] == "get":
        return fresh
    swaps = [doing for doing, _ in sources]
    taken = [source for doing, source in reading.reads if doing in swaps]
    return [source for source in fresh if source[0] not in taken]


def done(program, reading, hand, source):
    """The reading behind the next row of a hand, which reads this source, None if it gets nothing."""
    at, held = reading.stands[hand]
    row = program[hand][at]
    doing = (hand, at)
    stands, sources = list(reading.stands), list(reading.sources)
    reads, fences = reading.reads, reading.fences
    got = None
    if source is not None:
        got = source[1]
        reads = reads + ((doing, source[0]),)
    if is_putting(row):
        sources[place_of(row)] = sources[place_of(row)] + ((doing, value_put(row, held)),)
    if row[0] == "fence":
        fences = fences + (doing,)
    stands[hand] = stand_behind(reading.stands[hand], row, got)
    freed = list(reading.left)
    freed[hand] = 0
    return Reading(stands, sources, reads, fences, freed)


def leaving_all(reading, hand, place):
    """The reading in which a hand leaves all that is there now."""
    leaving = list(reading.left)
    leaving[hand] = len(reading.sources[place])
    return Reading(reading.stands, reading.sources, reading.reads, reading.fences, leaving)


def has_hope(program, reading):
    """Whether all hands that wait can still get something later, as far as the rows of the others tell."""
    hands = list(range(len(program)))
    moving = [hand for hand in hands if not is_waiting(program, reading, hand)]
    while len(moving) < len(program):
        rows = [row for hand in moving for row in program[hand][reading.stands[hand][0]:]]
        places = [place_of(row) for row in rows if is_putting(row)]
        freed = [hand for hand in hands if hand not in moving and place_waited(program, reading, hand) in places]
        if not freed:
            return False
        moving = moving + freed
    return True


def is_waiting(program, reading, hand):
    """Whether a hand waits for what comes later."""
    at = reading.stands[hand][0]
    return at < len(program[hand]) and not has_choice(program, reading, hand)


def place_waited(program, reading, hand):
    """The place of the next row of a hand."""
    return place_of(program[hand][reading.stands[hand][0]])


def whole_readings(program, rule):
    """The list of all readings in which no hand has a next row, if there are not too many stories with them."""
    whole = []
    many = 0
    waiting = [first_reading(program)]
    while waiting:
        reading = waiting.pop()
        if is_whole(program, reading):
            whole.append(reading)
            many += count_with(program, rule, reading)
            if many > MOST_STORIES:
                raise TooLarge("too many stories")
        else:
            behind = readings_behind(program, reading)
            # those that leave nothing come first: they surely are read to the end
            waiting.extend([that for that in behind[::-1] if has_hope(program, that)])
    return whole


def heads_at(program, reading, place):
    """The list of the puts and gives done at a place: all that puts there, but the first and the swaps."""
    doings = [doing for doing, _ in reading.sources[place][1:]]
    return [(hand, at) for hand, at in doings if not is_getting(program[hand][at])]


def fences_by(program, reading):
    """A list for each hand of its fences done."""
    return [[doing for doing in reading.fences if doing[0] == hand] for hand in range(len(program))]


def count_with(program, rule, reading):
    """The number of the stories by a rule with just these reads."""
    many = 1
    for place in range(PLACES):
        many = many * factorial(len(heads_at(program, reading, place)))
    if rule != "views":
        return many
    many = many * factorial(len(reading.fences))
    for fences in fences_by(program, reading):
        many = many // factorial(len(fences))
    return many
