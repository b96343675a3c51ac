"""What several tests use: programs, wrong values, and ways to spoil evidence."""

import random
from copy import deepcopy

RULES = ("one", "queues", "lanes", "views")
FENCE = ("fence",)

SIGNS = ((("put", 0, 1), ("get", 0, 1)), (("put", 1, 1), ("get", 0, 0)))
UNSEEN = (((0, 0, 0), (0, 0, 0)), (1, 1, 0, 0))
MESSAGE = ((("put", 0, 1), ("put", 1, 1)), (("get", 0, 1), ("get", 1, 0)))
LATE = (((0, 0, 0), (1, 0, 0)), (1, 1, 0, 0))
LOCK = (
    (("put", 0, 1), ("get", 0, 1), ("only", 0, 0, 1), ("put", 2, 1)),
    (("put", 1, 1), ("get", 0, 0), ("only", 0, 0, 1), ("put", 2, 2)),
)
FOUR = (
    (("put", 0, 1),), (("put", 1, 1),),
    (("get", 0, 0), ("get", 1, 1)), (("get", 0, 1), ("get", 1, 0)),
)
EVERY = (
    (("put", 3, 2), ("get", 0, 3), ("give", 1, 0), ("swap", 2, 1, 3), ("only", 2, 2, 2), FENCE, ("put", 2, 1)),
    (),
    (("swap", 1, 1, 1), ("get", 2, 2)),
)
EMPTY = ((),)
# a program of hands without any row
EMPTIES = ((), (), (), ())
LONG = ((("put", 0, 1),) * 16,)

# just 3000 states by each rule
FULL = ((FENCE,) * 14, (FENCE,) * 9, (FENCE,) * 9, (FENCE,))


def waiting(ahead, behind, row):
    """A hand whose rows around one row change nothing."""
    return (("get", 2, 3),) * ahead + (row,) + (("get", 2, 3),) * behind


# 3001 states by one and by views; and by queues and by lanes
ONE_MORE = {
    "one": (waiting(0, 6, ("put", 0, 1)), waiting(4, 7, ("get", 0, 0)), waiting(12, 2, ("get", 0, 0))),
    "queues": (waiting(6, 0, ("put", 0, 1)), waiting(0, 15, ("get", 0, 0)), waiting(6, 8, ("get", 0, 0))),
}
ONE_MORE["views"] = ONE_MORE["one"]
ONE_MORE["lanes"] = ONE_MORE["queues"]
# far more than 3000 states by each rule, with so many hands as SIGNS, and with four
HUGE = tuple(tuple(row for value in (1, 2, 3, 0) for row in (("put", at, value), ("get", value % 3, 1 - at)))
             for at in (0, 1))
HUGE_FOUR = HUGE + HUGE

# just 600 stories by each rule, and 601
STORIES_600 = (
    (("put", 0, 1), ("put", 0, 2), ("put", 0, 3), ("put", 0, 1)),
    (("get", 0, 0), ("get", 1, 0)),
)
STORIES_601 = (
    (("put", 0, 1),),
    (("get", 0, 0), ("only", 0, 1, 6), ("put", 1, 1), ("put", 1, 2), ("put", 1, 3), ("put", 1, 1),
     ("get", 1, 1), ("get", 2, 1)),
)


class Odd:
    """A value of no kind that is known."""


ANYTHING = [None, True, False, 0, 1, -1, 10 ** 30, "", "one more", b"one", [], (), {}, {1}, frozenset(), Odd(), Odd, len]

BAD_ROWS = [
    None, True, 7, "fence", b"fence", ["fence"], [], (), ("fence", 0), ("fence", None), ("rest",), (True,), (None,),
    (b"fence",), (["fence"],), ("put",), ("put", 0), ("put", 0, 1, 1), ("put", True, 1), ("put", 0, True),
    ("put", False, 1), ("put", None, 1), ("put", "0", 1), ("put", 4, 1), ("put", -1, 1), ("put", 0, 4), ("put", 0, -1),
    ["put", 0, 1], ("put", [0], 1), ("put", (0,), 1), ("give", 0, 3), ("give", 4, 0), ("give", 0, True), ("give", 0),
    ("give", 0, 0, 0), ("get", 3, 0), ("get", 0, 4), ("get", False, 0), ("get", 0, False), ("get", 0),
    ("get", 0, 0, 0), ("get", -1, 0), ("swap", 0, 0), ("swap", 3, 0, 0), ("swap", 0, 4, 0), ("swap", 0, 0, 4),
    ("swap", 0, 0, True), ("swap", True, 0, 0), ("swap", 0, 0, 0, 0), ("only", 0, 0), ("only", 0, 0, 0),
    ("only", 0, 0, 2), ("only", 0, 0, -1), ("only", 0, 0, True), ("only", 3, 0, 1), ("only", 0, 4, 1),
    ("only", True, 0, 1), ("only", 0, False, 1), ("only", 0, 0, 1, 1), ("only", 0, 0, None),
]
BAD_PROGRAMS = ANYTHING + [
    [()], [[]], (None,), ((), None), ([],), ("put",), ((), (), (), (), ()), ((FENCE,) * 17,), ((), [FENCE]), (FENCE,),
    ({},), (True,), (0,), ((("only", 0, 0, 1),),), ((FENCE, ("only", 0, 0, 1)),), ((("only", 0, 0, 16),) + (FENCE,) * 15,),
] + [((row, FENCE),) for row in BAD_ROWS] + [((), (FENCE, FENCE, row, FENCE)) for row in BAD_ROWS]
BAD_RULES = ANYTHING + ["One", "ones", "one ", "rule", ["one"], ("one",), {"one": 1}, ("one", "queues", "lanes", "views")]
BAD_RUNS = [
    (None, None), (True, None), (0, None), ("", None), ("do", None), (b"", None), ({}, None), ({1}, None), (Odd(), None),
]
BAD_DEEDS = [
    None, True, 0, "do", b"do", [], (), ["do", 0, None], ("do",), ("do", 0), ("do", 0, None, None), ("do", 0, 0),
    ("do", 0, False), ("do", False, None), ("do", True, None), ("do", 2, None), ("do", -1, None), ("do", None, None),
    ("do", "0", None), ("move", 0), ("move", 0, 0), ("move", 1), ("Do", 0, None), (b"do", 0, None), ("do", [0], None),
    ("do", 0, [None]), ("do", (0,), None), {"do": 0}, Odd(),
]
HELD = (0, 0, 0)
THERE = (0, 0, 0, 0)
# none of them is an outcome for two hands
BAD_OUTCOMES = ANYTHING + [
    ((HELD,), THERE), ((HELD, HELD, HELD), THERE), ((), THERE), ((HELD, HELD),), ((HELD, HELD), THERE, None),
    [(HELD, HELD), THERE], ([HELD, HELD], THERE), ((HELD, HELD), list(THERE)), ((HELD, list(HELD)), THERE),
    ((HELD, (0, 0)), THERE), ((HELD, (0, 0, 0, 0)), THERE), ((HELD, HELD), (0, 0, 0)), ((HELD, HELD), (0, 0, 0, 0, 0)),
    ((HELD, (0, 0, 4)), THERE), ((HELD, (0, 0, -1)), THERE), ((HELD, HELD), (4, 0, 0, 0)), ((HELD, HELD), (0, -1, 0, 0)),
    (((True, 0, 0), HELD), THERE), ((HELD, (0, False, 0)), THERE), ((HELD, HELD), (0, 0, True, 0)),
    (((None, 0, 0), HELD), THERE), ((HELD, HELD), ("0", 0, 0, 0)), ((HELD, HELD), None), (None, THERE), (HELD, HELD),
]

# none of them is one of prices for gaps of two hands with two rows each
BAD_PRICES = ANYTHING + [
    {gap: 3} for gap in (
        None, 0, True, "01", b"01", (), (0,), (0, 1, 1), (0, 3), (2, 0), (-1, 0), (0, -1), (True, 0), (0, True), (False, 0),
        (0, False), (None, 0), (0, None), ("0", 1), (0, "1"), ((0,), 1), (0, (1,)), ((0, 1), (1, 1)), frozenset((0, 1)),
        (10 ** 30, 0), (0, 10 ** 30),
    )
] + [{(0, 1): price} for price in (None, True, False, 0, 10, -1, 10 ** 30, "3", b"3", [3], (3,), {3: 3}, Odd(), Odd)] + [
    {(0, 1): 3, (1, 3): 1}, {(0, 1): 3, (1, 1): 0}, {(0, 1): 3, None: 3}, {(0, 1): 3, (1, 1): True},
    {(0, 0): 1, (0, 1): 1, (0, 2): 1, (1, 0): 1, (1, 1): 1}, [((0, 1), 3)], (((0, 1), 3),), [(0, 1)], ((0, 1), 3), {(0, 1)},
]
# none of them is a row that can be exchanged
FIXED_ROWS = ANYTHING + BAD_ROWS + [
    ("put", 0, 0), ("swap", 0, 0, 0), ("only", 0, 0, 1), ("only", 2, 3, 16), (("fence",),), ["put", 0, 1], ["get", 0, 1],
]


def parts(story):
    """A story as a triple of its reads in ascending order, its puts, and its fences."""
    return (tuple(sorted(story.reads.items())), story.puts, story.fences)


def random_hand(source, many, places):
    """A hand of so many rows."""
    rows = []
    for at in range(many):
        behind = many - at - 1
        word = source.choice(["put", "put", "give", "get", "get", "get", "swap", "fence", "only"])
        place = source.randrange(places)
        if word == "put":
            rows.append(("put", place, source.randrange(4)))
        elif word == "give":
            rows.append(("give", place, source.randrange(2)))
        elif word == "get":
            rows.append(("get", source.randrange(2), place))
        elif word == "swap":
            rows.append(("swap", source.randrange(2), place, source.randrange(4)))
        elif word == "only" and behind:
            rows.append(("only", source.randrange(2), source.randrange(2), source.randint(1, behind)))
        else:
            rows.append(FENCE)
    return tuple(rows)


def random_programs(seed, many, hands=(1, 2, 2, 2, 3), rows=3, places=2):
    """So many small programs, always the same ones."""
    source = random.Random(seed)
    found = []
    while len(found) < many:
        number = source.choice(hands)
        found.append(tuple(random_hand(source, source.randint(0, rows), places) for _ in range(number)))
    return found


def with_changes(thing):
    """All values like a nested tuple in which one integer, boolean or None is another one, or one item is left out."""
    if isinstance(thing, bool):
        return [not thing, int(thing), None]
    if isinstance(thing, int):
        return [thing + 1, thing - 1, bool(thing), None]
    if thing is None:
        return [0, False]
    if not isinstance(thing, tuple):
        return [None]
    found = [list(thing), thing + (0,), thing[:-1]]
    for at, item in enumerate(thing):
        found += [thing[:at] + (other,) + thing[at + 1:] for other in with_changes(item)]
    return found


def spoiled_states(states):
    """Lists that are nearly one of states, each of which is another one in some way."""
    foreign = (((99, (0, 0, 0)),), (0, 0, 0, 0), None)
    found = [
        states[:-1], states[1:], states + states[:1], states[:-1] + states[:1], states + [foreign],
        states[:-1] + [foreign], tuple(states), None, {}, states + [None],
    ]
    if len(states) > 1:
        found.append([])
    found += [states[:-1] + [other] for other in with_changes(states[-1])]
    return [spoiled for spoiled in found if not exactly(spoiled, states)]


def changed_runs(run):
    """Lists that are nearly a run; some of them may be runs, too."""
    found = [[], run + [("do", 0, None)], run + [("move", 0)], [None] + run, tuple(run), None, {}, "run", run + [[]]]
    if run:
        found += [run[:-1], run[1:], run[:-1] + [list(run[-1])], run + run[-1:]]
        found += [run[:-1] + [other] for other in with_changes(run[-1])]
        found += [[other] + run[1:] for other in with_changes(run[0])]
    return found


def exactly(one, other):
    """Whether two values are equal, and of the same kinds throughout."""
    if type(one) is not type(other):
        return False
    if isinstance(one, (list, tuple)):
        return len(one) == len(other) and all(exactly(a, b) for a, b in zip(one, other))
    return one == other


class EvidenceChecks:
    """What holds for evidence of each class; a test case that has these methods."""

    def check_equality(self, evidence, copy, others):
        """Evidence is equal to its copy, and to none of the others, nor of other classes."""
        self.assertTrue(evidence == copy)
        self.assertFalse(evidence != copy)
        for other in others:
            self.assertFalse(evidence == other, other.__dict__)
            self.assertTrue(evidence != other)
            self.assertFalse(other == evidence)

    def check_shown(self, evidence, *arguments):
        """Evidence shows, and says so with True."""
        self.assertIs(evidence.shows(*arguments), True)

    def check_spoiled(self, evidence, name, spoiled, *arguments):
        """Evidence does not show with any of the spoiled values as this attribute, and shows without them."""
        right = getattr(evidence, name)
        before = deepcopy(arguments)
        for wrong in spoiled:
            setattr(evidence, name, wrong)
            self.assertIs(evidence.shows(*arguments), False, (name, wrong))
        setattr(evidence, name, right)
        self.assertIs(evidence.shows(*arguments), True)
        self.assertEqual(before, arguments)
