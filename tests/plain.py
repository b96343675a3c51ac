"""Plain and bare programs for the tests, and shapes that are no stretches, or no lists of them."""

import random

from memoryviews.errors import TooLarge
from memoryviews.lines import is_as_by_one

FENCE = ("fence",)
BARE = ("put", "put", "give", "get", "get", "get", "fence")
PLAIN = BARE + ("swap",)


def plain_hand(source, many, places, words):
    rows = []
    for _ in range(many):
        place, slot = source.randrange(places), source.randrange(3)
        rows.append({
            "put": ("put", place, source.randint(1, 3)), "give": ("give", place, slot), "get": ("get", slot, place),
            "swap": ("swap", slot, place, source.randint(1, 3)), "fence": FENCE,
        }[source.choice(words)])
    return tuple(rows)


def plain_programs(seed, many, words, hands=(2, 2, 3), rows=(2, 3), places=(2, 2, 3)):
    """So many small programs of these words, always the same ones."""
    source = random.Random(seed)
    found = []
    while len(found) < many:
        number, spread = source.choice(hands), source.choice(places)
        found.append(tuple(plain_hand(source, source.randint(*rows), spread, words) for _ in range(number)))
    return found


def as_by_one(program, rule):
    """Whether a program is as by one, as its stories tell; None if it has too many."""
    try:
        return is_as_by_one(program, rule)
    except TooLarge:
        return None


def spoiled_rings(ring):
    """Lists that are nearly a ring of two or more stretches, and other things."""
    first, last = ring[0], ring[-1]
    found = [
        None, {}, "ring", 0, [], tuple(ring), ring[:1], ring[1:], ring[:-1], ring + ring[:1], ring + [first[0]], ring + [()],
        [[list(doing) for doing in stretch] for stretch in ring], [list(stretch) for stretch in ring], [first] * 2,
        [first[::-1]] + ring[1:], ring[:-1] + [last[::-1]] if last[0] != last[1] else [], [first + first[:1]] + ring[1:],
        [first[:1]] + ring[1:], [None] + ring[1:], ring[:-1] + [None], [first[0]] + ring[1:],
    ]
    for at in range(2):
        hand, row = first[at]
        for doing in ((hand, row + 20), (hand, -1), (hand + 10, row), (-1, row), (None, row), (hand, None), (hand, row, 0),
                      (hand,), [hand, row], None, hand, (float, row), (hand, str(row))):
            found.append([first[:at] + (doing,) + first[at + 1:]] + ring[1:])
        if hand < 2:
            found.append([first[:at] + ((bool(hand), row),) + first[at + 1:]] + ring[1:])
        if row < 2:
            found.append([first[:at] + ((hand, bool(row)),) + first[at + 1:]] + ring[1:])
    return [spoiled for spoiled in found if spoiled != ring or repr(spoiled) != repr(ring)]
