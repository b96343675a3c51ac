"""Stories: what reads what, and in which order puts and fences stand, without any machine."""

from itertools import permutations, product

from memoryviews.machines import check_rule, stand_behind
from memoryviews.programs import NOTHING_HELD, PLACES
from memoryviews.programs import check_program, is_getting, is_putting, place_of, value_put
from memoryviews.readings import count_with, fences_by, heads_at, whole_readings
from memoryviews.values import frozen, is_number, is_tuple_of, lists_all, same


class Story:
    """What each doing that gets reads, the orders of the doings that put, and the order of the fences."""

    def __init__(self, reads, puts, fences):
        self.reads = {doing: frozen(reads[doing]) for doing in sorted(reads, key=order_of)}
        self.puts = frozen(puts)
        self.fences = frozen(fences)

    def __eq__(self, other):
        if not isinstance(other, Story) or not same(self.reads, other.reads):
            return False
        return same(self.puts, other.puts) and same(self.fences, other.fences)


def order_of(doing):
    """What doings are ordered by: None is before all numbers."""
    return tuple([(0, 0) if part is None else (1, part) for part in doing])


def copy_of(story):
    """A new story with the same attributes."""
    return Story(story.reads, story.puts, story.fences)


def is_doing(thing):
    """Whether a value is a pair of a hand or None and an index."""
    return is_tuple_of(thing, 2) and (thing[0] is None or is_number(thing[0])) and is_number(thing[1])


def count_stories(program, rule):
    """The number of the stories of a program by a rule."""
    check_program(program)
    check_rule(rule)
    return sum([count_with(program, rule, reading) for reading in whole_readings(program, rule)])


def story_outcome(program, rule, story):
    """The outcome of a story, None if it is none of the program by the rule."""
    check_program(program)
    check_rule(rule)
    return outcome_told(program, rule, story)


def outcome_told(program, rule, story):
    """The same for what surely are a program and a rule."""
    if not has_form(story):
        return None
    stands, worth, done = follow_reads(program, story.reads)
    if any([at < len(rows) for (at, _), rows in zip(stands, program)]):
        return None
    if not has_reads(program, story, done) or not has_puts(program, story, worth):
        return None
    if not has_fences(program, rule, story, done):
        return None
    return (tuple([held for _, held in stands]), tuple([worth[row[-1]][1] for row in story.puts]))


def has_form(story):
    """Whether something is a story with a dict to pairs, a tuple of four tuples, and a tuple."""
    if not isinstance(story, Story) or not isinstance(story.reads, dict) or not is_tuple_of(story.puts, PLACES):
        return False
    if not all([is_doing(story.reads[doing]) for doing in story.reads]):
        return False
    return all([isinstance(row, tuple) for row in story.puts]) and isinstance(story.fences, tuple)


def follow_reads(program, reads):
    """How the hands stand, what was put where, and all rows done, as far as nothing is read ahead of itself."""
    stands = [(0, NOTHING_HELD) for _ in program]
    worth = {(None, place): (place, 0) for place in range(PLACES)}
    done = []
    going = True
    while going:
        going = False
        for hand, rows in enumerate(program):
            at = stands[hand][0]
            if at < len(rows) and is_ready(rows[at], reads.get((hand, at)), worth):
                follow_row(rows[at], hand, reads, stands, worth)
                done.append((hand, at))
                going = True
    return stands, worth, done


def is_ready(row, source, worth):
    """Whether a row gets nothing, or what it reads was put at its place before."""
    return not is_getting(row) or (source in worth and worth[source][0] == place_of(row))


def follow_row(row, hand, reads, stands, worth):
    """Do the next row of a hand: change how it stands, and what was put."""
    at, held = stands[hand]
    got = None
    if is_getting(row):
        got = worth[reads[(hand, at)]][1]
    if is_putting(row):
        worth[(hand, at)] = (place_of(row), value_put(row, held))
    stands[hand] = stand_behind(stands[hand], row, got)


def has_reads(program, story, done):
    """Whether a story has reads for just the doings that get."""
    return lists_all(list(story.reads), [(hand, at) for hand, at in done if is_getting(program[hand][at])])


def has_puts(program, story, worth):
    """Whether a story has for each place an order of just the doings that put there."""
    for place, row in enumerate(story.puts):
        if not lists_all(list(row), [doing for doing in worth if worth[doing][0] == place]):
            return False
        if row[0] != (None, place):
            return False
        swaps = [(hand, at) for hand, at in row[1:] if is_getting(program[hand][at])]
        if any([row.index(swap) != row.index(story.reads[swap]) + 1 for swap in swaps]):
            return False
    return True


def has_fences(program, rule, story, done):
    """Whether a story has an order of just the fences done, in which those of each hand are in their order."""
    fences = sorted([(hand, at) for hand, at in done if program[hand][at][0] == "fence"])
    if not lists_all(list(story.fences), fences):
        return False
    if rule != "views":
        return list(story.fences) == fences
    return sorted(story.fences, key=lambda doing: doing[0]) == fences


def chain_from(doing, swaps):
    """A doing, the swap that reads it, the one that reads that, and so on."""
    chain = [doing]
    while chain[-1] in swaps:
        chain.append(swaps[chain[-1]])
    return chain


def orders_at(program, reading, place):
    """All orders in which the doings can stand that put at a place."""
    swaps = {source: (hand, at) for (hand, at), source in reading.reads if is_putting(program[hand][at])}
    first = chain_from((None, place), swaps)
    chains = [chain_from(head, swaps) for head in heads_at(program, reading, place)]
    return [tuple(first + [doing for chain in order for doing in chain]) for order in permutations(chains)]


def merged_orders(rows):
    """All orders of all items of the rows, in which those of each row are in their order."""
    if not any([len(row) > 0 for row in rows]):
        return [()]
    orders = []
    for at, row in enumerate(rows):
        if row:
            behind = merged_orders(rows[:at] + [row[1:]] + rows[at + 1:])
            orders.extend([(row[0],) + order for order in behind])
    return orders


def fence_orders(program, rule, reading):
    """All orders in which the fences done can stand by a rule."""
    if rule != "views":
        return [tuple(sorted(reading.fences))]
    return merged_orders(fences_by(program, reading))


def stories_with(program, rule, reading):
    """The list of all stories with just these reads, each in a pair with its outcome."""
    values = {doing: value for row in reading.sources for doing, value in row}
    reads = {doing: source for doing, source in reading.reads}
    held = tuple([registers for _, registers in reading.stands])
    rows = [orders_at(program, reading, place) for place in range(PLACES)]
    fences = fence_orders(program, rule, reading)
    told = []
    for zero, one, two, three, order in product(rows[0], rows[1], rows[2], rows[3], fences):
        orders = (zero, one, two, three)
        told.append((Story(reads, orders, order), (held, tuple([values[row[-1]] for row in orders]))))
    return told


def all_stories(program, rule):
    """The list of all stories of a program by a rule, each in a pair with its outcome."""
    return [pair for reading in whole_readings(program, rule) for pair in stories_with(program, rule, reading)]
