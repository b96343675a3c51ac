"""Exchanges [22]: changes of two rows that nobody can tell, and those that do harm."""

import random
import unittest
from itertools import permutations, product

from memoryviews.changes import Harm, exchange, is_harmless, leave_out
from memoryviews.errors import BadRows, BadRule, TooLarge
from memoryviews.programs import is_program
from memoryviews.runs import Seen, outcomes
from tests.cases import BAD_RULES, FENCE, FIXED_ROWS, FULL, ONE_MORE, RULES, EvidenceChecks, with_changes
from tests.reference import reference_outcomes

# all rows that can be changed
ROWS = [FENCE]
ROWS += [("put", place, value) for place in range(4) for value in (1, 2, 3)]
ROWS += [("give", place, slot) for place in range(4) for slot in range(3)]
ROWS += [("get", slot, place) for place in range(4) for slot in range(3)]
ROWS += [("swap", slot, place, value) for place in range(4) for slot in range(3) for value in (1, 2, 3)]
FORMS = {"put": ("place", "value"), "give": ("place", "slot"), "get": ("slot", "place"), "swap": ("slot", "place", "value"),
         "fence": ()}
PUT, GET, SWAP, GIVE = ("put", 0, 1), ("get", 0, 1), ("swap", 0, 0, 1), ("give", 0, 2)


def part(row, kind):
    """The place, slot or value of a row, None if it has none."""
    return dict(zip(FORMS[row[0]], row[1:])).get(kind)


def named(rows):
    """Two rows in which places, slots and values are numbered by their first use, so that few pairs are left."""
    found = {"place": [], "slot": [], "value": [0]}
    for row in rows:
        for kind, number in zip(FORMS[row[0]], row[1:]):
            if number not in found[kind]:
                found[kind].append(number)
    return tuple((row[0],) + tuple(found[kind].index(number) for kind, number in zip(FORMS[row[0]], row[1:])) for row in rows)


PAIRS = sorted({named(pair) for pair in product(ROWS, repeat=2)})


def harmless_cases(one, other):
    """The rules by which it is harmless to exchange two rows, and those to leave out the first one, case by case."""
    words = one[0] + " " + other[0]
    near = part(one, "place") == part(other, "place")
    slots = part(one, "slot") == part(other, "slot")
    exchanging = {
        "put get": [] if near else ["queues", "lanes", "views"],
        "give get": [] if near or slots else ["queues", "lanes", "views"],
        "fence put": ["one", "queues"], "fence give": ["one", "queues"], "put fence": ["one"], "give fence": ["one"],
        "put put": [] if near else ["lanes"], "put give": [] if near else ["lanes"],
        "give put": [] if near else ["lanes"], "give give": [] if near else ["lanes"],
        "get fence": ["one", "queues", "lanes"], "fence get": ["one"],
        "fence swap": ["one", "queues", "lanes"], "swap fence": ["one", "queues", "lanes"],
    }.get(words, [])
    leaving = {
        "put put": RULES if near else [], "put give": RULES if near else [], "give put": RULES if near else [],
        "give give": RULES if near else [], "get get": RULES if slots else [], "get swap": RULES if slots else [],
        "fence fence": RULES, "fence put": ["one"], "fence give": ["one"], "fence get": ["one"],
        "fence swap": ["one", "queues", "lanes"],
    }.get(words, [])
    return (list(RULES) if one == other else list(exchanging)), list(leaving)


def changed(program, at, leaving):
    """The program in which the rows at an index of the first hand are exchanged, or the first one is left out."""
    rows = list(program[0])
    first = rows.pop(at)
    if not leaving:
        rows.insert(at + 1, first)
    return (tuple(rows),) + program[1:]


def harm(rule, one, other, leaving):
    return leave_out(rule, one, other) if leaving else exchange(rule, one, other)


def has_outcome(rule, evidence, leaving):
    """Whether the outcome comes by the changed program, and whether it comes by the program itself, by the reference."""
    other = changed(evidence.program, evidence.at, leaving)
    return [evidence.outcome in reference_outcomes(program, rule) for program in (other, evidence.program)]


def is_small(program, rule):
    """Whether at most 3000 states come about."""
    try:
        outcomes(program, rule)
    except TooLarge:
        return False
    return True


class TestHarmless(unittest.TestCase):

    def test_each_pair_of_rows(self):
        self.assertEqual([len(ROWS), len(PAIRS)], [73, 69])
        for one, other in product(ROWS, repeat=2):
            exchanging, leaving = harmless_cases(one, other)
            for rule in RULES:
                self.assertIs(is_harmless(rule, one, other, False), rule in exchanging, (rule, one, other))
                self.assertIs(is_harmless(rule, one, other, True), rule in leaving, (rule, one, other))

    def test_the_cases(self):
        by_all = [True] * 4
        for one, other, exchanging, leaving in (
            (PUT, PUT, by_all, by_all), (PUT, ("put", 0, 2), [False] * 4, by_all),
            (PUT, ("put", 1, 1), [False, False, True, False], [False] * 4),
            (PUT, ("give", 0, 1), [False] * 4, by_all), (GIVE, ("give", 0, 1), [False] * 4, by_all),
            (PUT, GET, [False, True, True, True], [False] * 4), (PUT, ("get", 0, 0), [False] * 4, [False] * 4),
            (GIVE, GET, [False, True, True, True], [False] * 4), (GIVE, ("get", 2, 1), [False] * 4, [False] * 4),
            (GET, GET, by_all, by_all), (GET, ("get", 0, 2), [False] * 4, by_all), (GET, ("get", 1, 1), [False] * 4, [False] * 4),
            (GET, ("swap", 0, 3, 1), [False] * 4, by_all), (SWAP, GET, [False] * 4, [False] * 4),
            (SWAP, SWAP, by_all, [False] * 4), (FENCE, FENCE, by_all, by_all),
            (FENCE, PUT, [True, True, False, False], [True, False, False, False]),
            (PUT, FENCE, [True, False, False, False], [False] * 4),
            (FENCE, GET, [True, False, False, False], [True, False, False, False]),
            (GET, FENCE, [True, True, True, False], [False] * 4),
            (FENCE, SWAP, [True, True, True, False], [True, True, True, False]),
            (SWAP, FENCE, [True, True, True, False], [False] * 4),
        ):
            self.assertEqual([is_harmless(rule, one, other, False) for rule in RULES], exchanging, (one, other))
            self.assertEqual([is_harmless(rule, one, other, True) for rule in RULES], leaving, (one, other))

    def test_what_is_harmless_is(self):
        source = random.Random(41)
        rows = [FENCE, FENCE, ("put", 0, 3), ("put", 1, 3), ("get", 2, 0), ("get", 2, 1), ("get", 1, 0), ("give", 1, 1),
                ("swap", 1, 0, 2), ("put", 2, 3)]
        for one, other in PAIRS:
            exchanging, leaving_out = harmless_cases(one, other)
            for rule, leaving in [(rule, False) for rule in exchanging] + [(rule, True) for rule in leaving_out]:
                for _ in range(4):
                    ahead = tuple(source.choice(rows) for _ in range(source.randint(0, 2)))
                    behind = tuple(source.choice(rows) for _ in range(source.randint(0, 2)))
                    hand = tuple(source.choice(rows) for _ in range(source.randint(1, 3)))
                    program = (ahead + (one, other) + behind, hand)
                    after = outcomes(changed(program, len(ahead), leaving), rule)
                    self.assertTrue(set(after) <= set(outcomes(program, rule)), (rule, leaving, program))

    def test_onlys_that_leave_out_both(self):
        # an only that leaves out both or neither makes no difference
        for one, other, rule in ((PUT, ("get", 2, 1), "queues"), (PUT, ("put", 1, 1), "lanes"), (PUT, ("get", 2, 1), "views")):
            hand = (("get", 0, 2), ("only", 0, 1, 2), one, other, ("get", 1, 0))
            program = (hand, (("put", 2, 1), ("get", 0, 0), ("get", 1, 1)))
            self.assertTrue(set(outcomes(changed(program, 2, False), rule)) <= set(outcomes(program, rule)))


class TestHarm(EvidenceChecks, unittest.TestCase):

    def check_harm(self, rule, one, other, leaving):
        evidence = harm(rule, one, other, leaving)
        if is_harmless(rule, one, other, leaving):
            self.assertIsNone(evidence)
            return
        self.assertIsInstance(evidence, Harm)
        self.check_shown(evidence, rule, one, other, leaving)
        self.assertTrue(is_program(evidence.program))
        self.assertNotIn("only", [row[0] for hand in evidence.program for row in hand])
        self.assertEqual(evidence.program[0][evidence.at:evidence.at + 2], (one, other))
        self.assertEqual(has_outcome(rule, evidence, leaving), [True, False], (rule, one, other, leaving))

    def test_each_pair_by_the_reference(self):
        for one, other in PAIRS:
            for rule, leaving in product(RULES, (False, True)):
                self.check_harm(rule, one, other, leaving)

    def test_other_numbers(self):
        # all places, registers and values, at random
        source = random.Random(42)
        for _ in range(700):
            one, other = source.choice(ROWS), source.choice(ROWS)
            rule, leaving = source.choice(RULES), source.random() < 0.5
            evidence = harm(rule, one, other, leaving)
            self.assertIs(evidence is None, is_harmless(rule, one, other, leaving))
            if evidence is not None:
                self.check_shown(evidence, rule, one, other, leaving)

    def test_two_gives_and_gets_in_all_numbers(self):
        # the last number of these rows is no value
        for word, that in product(("give", "get"), repeat=2):
            for numbers in permutations(range(3), 2):
                for rule in RULES:
                    self.check_harm(rule, (word, 0, numbers[0]), (that, 1, numbers[1]), False)
                    self.check_harm(rule, (word, 2, numbers[0]), (that, 2, numbers[1]), True)

    def test_harm_of_the_other_change(self):
        evidence = exchange("one", PUT, GET)
        self.assertTrue(evidence.shows("one", PUT, GET, False))
        self.assertFalse(evidence.shows("one", GET, PUT, False))
        self.assertFalse(evidence.shows("one", PUT, ("get", 0, 0), False))
        self.assertFalse(evidence.shows("queues", PUT, GET, False))
        other = leave_out("one", PUT, GET)
        self.assertTrue(other.shows("one", PUT, GET, True))
        self.assertFalse(other.shows("one", PUT, GET, False))

    def test_harm_by_hand(self):
        program = ((PUT, GET), (("put", 1, 1), ("get", 0, 0)))
        outcome = (((0, 0, 0), (0, 0, 0)), (1, 1, 0, 0))
        evidence = Harm(program, 0, outcome)
        self.assertEqual([evidence.shows(rule, PUT, GET, False) for rule in RULES], [True, False, False, False])
        self.assertFalse(evidence.shows("one", PUT, GET, True))
        out = Harm(program, 0, (((0, 0, 0), (0, 0, 0)), (0, 1, 0, 0)))
        self.assertEqual([out.shows(rule, PUT, GET, True) for rule in RULES], [True] * 4)
        self.assertFalse(out.shows("one", PUT, GET, False))
        # the rows may stand there twice, but the index tells which are meant
        twice = ((PUT, GET, ("put", 0, 2), PUT, GET),)
        gone = (((0, 0, 0),), (2, 0, 0, 0))
        self.assertTrue(Harm(twice, 3, gone).shows("one", PUT, GET, True))
        self.assertFalse(Harm(twice, 0, gone).shows("one", PUT, GET, True))

    def test_the_rows_behind_stay(self):
        # each of the rows behind is done once, as before
        program = ((PUT, ("get", 1, 0), ("swap", 0, 2, 1), ("put", 0, 2), ("swap", 2, 3, 3)),)
        for leaving in (True, False):
            evidence = Harm(program, 0, (((0, 0, 0),), (2, 0, 1, 3)))
            self.assertEqual(has_outcome("one", evidence, leaving), [True, False])
            for rule in RULES:
                self.assertIs(evidence.shows(rule, PUT, ("get", 1, 0), leaving), True)
                self.assertIs(evidence.shows(rule, PUT, ("get", 1, 1), leaving), False)
        # the last row gets what the first one put, unless this is left out
        rows = (("swap", 0, 0, 1), ("swap", 1, 1, 1), ("swap", 1, 0, 2))
        for leaving, held in ((True, (0, 0, 0)), (False, (0, 1, 0))):
            evidence = Harm((rows,), 0, ((held,), (2, 1, 0, 0)))
            self.assertEqual(has_outcome("one", evidence, leaving), [True, not leaving])
            for rule in RULES:
                self.assertIs(evidence.shows(rule, rows[0], rows[1], leaving), leaving)

    def test_in_the_first_hand_alone(self):
        program = ((PUT, GET), (("put", 1, 1), ("get", 0, 0)))
        outcome = (((0, 0, 0), (0, 0, 0)), (1, 1, 0, 0))
        self.assertFalse(Harm(program, 0, outcome).shows("one", ("put", 1, 1), ("get", 0, 0), False))
        self.assertFalse(Harm(program[::-1], 0, outcome).shows("one", PUT, GET, False))
        self.assertTrue(Harm(program[::-1], 0, outcome).shows("one", ("put", 1, 1), ("get", 0, 0), False))

    def test_no_only_in_the_program(self):
        program = ((PUT, GET), (("put", 1, 1), ("get", 0, 0)))
        outcome = (((0, 0, 0), (0, 0, 0)), (1, 1, 0, 0))
        hand = (("only", 0, 0, 1), FENCE)
        for other, right in ((((PUT, GET) + hand, program[1]), False), ((hand + (PUT, GET), program[1]), False),
                             ((program[0], hand + program[1]), False), (program + (hand,), False),
                             (program + (hand[1:],), True), (((PUT, GET, FENCE),) + program[1:], True)):
            at = other[0].index(PUT)
            more = outcome if len(other) == 2 else (outcome[0] + ((0, 0, 0),), outcome[1])
            self.assertIn(more, reference_outcomes(changed(other, at, False), "one"))
            self.assertNotIn(more, reference_outcomes(other, "one"))
            self.assertIs(Harm(other, at, more).shows("one", PUT, GET, False), right)

    def test_spoiled(self):
        for rule, one, other, leaving in (
            ("one", PUT, GET, False), ("views", GET, FENCE, False), ("lanes", FENCE, PUT, False), ("queues", FENCE, GET, True),
            ("views", FENCE, SWAP, True), ("one", GIVE, ("give", 1, 0), True), ("views", PUT, ("put", 1, 1), False),
        ):
            arguments = (rule, one, other, leaving)
            evidence = harm(*arguments)
            at = evidence.at
            self.check_spoiled(evidence, "at", [at + 1, at - 1, -1, -2, len(evidence.program[0]) - 1, 99, 10 ** 30, None,
                                                bool(at), str(at), (at,)], *arguments)
            after = outcomes(changed(evidence.program, at, leaving), rule)
            before = outcomes(evidence.program, rule)
            wrong = before + [outcome for outcome in with_changes(evidence.outcome)
                              if outcome not in after or repr(outcome) not in map(repr, after)]
            self.assertTrue(set(before) & set(after))
            self.check_spoiled(evidence, "outcome", wrong, *arguments)
            for outcome in after:
                self.assertIs(Harm(evidence.program, at, outcome).shows(*arguments), outcome not in before)
            program = evidence.program
            for thing in with_changes(program)[3:] + [
                    program[1:] or None, (program[0][:at + 1],) + program[1:], program + ((),),
                    (program[0][:at] + (other, one) + program[0][at + 2:],) + program[1:]]:
                # some of these are programs in which it does harm, too
                right = is_program(thing) and thing[0][at:at + 2] == (one, other) and len(thing) == len(program)
                if right:
                    right = has_outcome(rule, Harm(thing, at, evidence.outcome), leaving) == [True, False]
                evidence.program = thing
                self.assertIs(evidence.shows(*arguments), right, thing)
            evidence.program = [list(hand) for hand in program]
            self.assertIs(evidence.shows(*arguments), False)

    def test_rows_need_the_same_kinds(self):
        # True is no 1, so these are no such rows
        evidence = exchange("one", PUT, GET)
        program = evidence.program
        rows = program[0][:evidence.at] + (("put", 0, True),) + program[0][evidence.at + 1:]
        evidence.program = (rows,) + program[1:]
        self.assertIs(evidence.shows("one", PUT, GET, False), False)

    def test_equal_rows_and_rows_of_the_same_place(self):
        for row in ROWS[::5]:
            for rule in RULES:
                self.assertIsNone(exchange(rule, row, row))
                self.assertFalse(Harm((((row, row)),), 0, (((0, 0, 0),), (0, 0, 0, 0))).shows(rule, row, row, False))
        for rule in RULES:
            same_value = exchange(rule, ("put", 2, 3), ("swap", 1, 2, 3))
            self.check_shown(same_value, rule, ("put", 2, 3), ("swap", 1, 2, 3), False)
            both = exchange(rule, ("swap", 1, 2, 3), ("get", 1, 2))
            self.check_shown(both, rule, ("swap", 1, 2, 3), ("get", 1, 2), False)
            self.assertIsNone(leave_out(rule, ("get", 1, 2), ("swap", 1, 2, 3)))

    def test_equality_and_copies(self):
        program, outcome = [[["put", 0, 1], ["get", 0, 1]], []], [[[0, 0, 0], [0, 0, 0]], [1, 0, 0, 0]]
        evidence = Harm(program, 0, outcome)
        right = [((PUT, GET), ()), 0, (((0, 0, 0), (0, 0, 0)), (1, 0, 0, 0))]
        self.assertEqual([evidence.program, evidence.at, evidence.outcome], right)
        self.check_equality(evidence, Harm(*right), [
            Harm(((PUT, GET),), 0, outcome), Harm(program, 1, outcome), Harm(program, False, outcome), Harm(program, 0, ()),
            Harm(program, 0, [[[False, 0, 0], [0, 0, 0]], [1, 0, 0, 0]]), Seen([])])
        program.clear()
        outcome[0].clear()
        self.assertEqual([evidence.program, evidence.at, evidence.outcome], right)
        first = exchange("one", PUT, GET)
        first.at = None
        first.program = None
        self.check_shown(exchange("one", PUT, GET), "one", PUT, GET, False)

    def test_errors(self):
        functions = (exchange, leave_out, lambda rule, one, other: is_harmless(rule, one, other, False),
                     lambda rule, one, other: is_harmless(rule, one, other, True),
                     lambda rule, one, other: Harm(FULL, 0, ()).shows(rule, one, other, False),
                     lambda rule, one, other: Harm(FULL, 0, ()).shows(rule, one, other, True))
        for function in functions:
            for rule in BAD_RULES:
                self.assertRaises(BadRule, function, rule, PUT, GET)
                self.assertRaises(BadRule, function, rule, None, ("only", 0, 0, 1))
            for row in FIXED_ROWS:
                for rule in RULES[:2]:
                    self.assertRaises(BadRows, function, rule, row, GET)
                    self.assertRaises(BadRows, function, rule, PUT, row)
                    self.assertRaises(BadRows, function, rule, row, row)

    def test_limits(self):
        # by queues a hand has five states with the put ahead, and four with the get ahead
        put, get = ("put", 0, 1), ("get", 0, 0)
        for one, other in ((put, get), (get, put)):
            outcome = (((0 if one == put else 1, 0, 0),) + ((0, 0, 0),) * 3, (1, 0, 0, 0))
            for many, right in ((5, True), (6, False)):
                self.assertIs(5 * 10 * 10 * (many + 1) <= 3000, right)
                program = ((one, other), (FENCE,) * 9, (FENCE,) * 9, (FENCE,) * many)
                self.assertIs(Harm(program, 0, outcome).shows("queues", one, other, False), right)
        # just 3001 states: of the program, and then of the one in which the rows are exchanged
        row = ("get", 2, 3)
        for rule in RULES:
            outcome = (((0, 0, 0),) * 3, (0, 0, 0, 0))
            program = ONE_MORE[rule]
            at = program[0].index(put)
            if at + 1 < len(program[0]):
                for rows, right in ((program[0], False), (program[0][:-1], True)):
                    self.assertIs(Harm((rows,) + program[1:], at, outcome).shows(rule, put, row, True), right)
        get = ("get", 2, 0)
        for rule in ("one", "views"):
            outcome = (((0, 0, 1), (0, 0, 0), (0, 0, 0)), (1, 0, 0, 0))
            for many, right in ((5, False), (4, True)):
                program = ((get, put) + (("get", 1, 3),) * many,) + ONE_MORE[rule][1:]
                other = changed(program, 0, False)
                self.assertEqual([is_small(program, rule), is_small(other, rule)], [True, right])
                self.assertIs(Harm(program, 0, outcome).shows(rule, get, put, False), right)


if __name__ == "__main__":
    unittest.main()
