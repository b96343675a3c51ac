"""Fences that can go [35]."""

import unittest
from itertools import combinations

from memoryviews.errors import BadProgram, BadRule, NotPlain, TooLarge
from memoryviews.sparing import Kept, Unkept, fewest_fences, keeping, spare
from tests import rings
from tests.cases import BAD_PROGRAMS, BAD_RULES, EMPTIES, EMPTY, FENCE, FOUR, LOCK, MESSAGE, SIGNS
from tests.cases import EvidenceChecks
from tests.plain import as_by_one, plain_programs, spoiled_rings

RULES = ("queues", "lanes", "views")
PUT, OTHER = ("put", 0, 1), ("put", 1, 1)
GET, THERE = ("get", 0, 0), ("get", 0, 1)
RING = [((0, 0), (0, 1)), ((1, 0), (1, 1))]
FENCED = ((PUT, FENCE, THERE, FENCE), (FENCE, OTHER, FENCE, GET))
# two fences next to one another, in the first hand
DOUBLE = ((PUT, FENCE, FENCE, THERE), (OTHER, FENCE, GET))
MOVING = ("put", "get", "get", "give", "fence", "fence")


def fences_of(program):
    return [(hand, at) for hand, rows in enumerate(program) for at, row in enumerate(rows) if row == FENCE]


def choices_in_order(program):
    """All choices, ordered by how many fences they have, then as tuples."""
    fences = fences_of(program)
    found = [choice for many in range(len(fences) + 1) for choice in combinations(fences, many)]
    return sorted(found, key=lambda choice: (len(choice), choice))


def kept(program, choice):
    """The program without the fences that are not in a choice."""
    return tuple(tuple(row for at, row in enumerate(rows) if row != FENCE or (hand, at) in choice)
                 for hand, rows in enumerate(program))


def rotated(found):
    """All the rings, each also beginning with any other of its stretches."""
    return [ring[at:] + ring[:at] for ring in found for at in range(len(ring))]


def filled(program):
    """The program with fences ahead of its last rows, at most six in all."""
    return tuple(rows[:-1] + (FENCE,) + rows[-1:] if rows else rows for rows in program)


class TestSparing(EvidenceChecks, unittest.TestCase):

    def right(self, program, rule):
        return rings.breaches(program, rule) if rule != "views" else rotated(rings.breaches(program, rule))

    def check_judged(self, program, rule):
        """Compare what is told with all rings of the programs that keep the fences of each choice; return the number."""
        evidence = spare(program, rule)
        self.check_shown(evidence, program, rule)
        choices = choices_in_order(program)
        bad = {choice: self.right(kept(program, choice), rule) for choice in choices}
        right = [choice for choice in choices if not bad[choice]]
        if not right:
            self.assertIsInstance(evidence, Unkept)
            self.assertIs(fewest_fences(program, rule), None)
            self.assertIn(evidence.stretches, self.right(program, rule))
            return None
        self.assertIsInstance(evidence, Kept)
        self.assertEqual([evidence.fences, fewest_fences(program, rule)], [right[0], len(right[0])])
        self.assertEqual(list(evidence.against), [choice for choice in choices if len(choice) < len(right[0])])
        for choice, stretches in evidence.against.items():
            self.assertIn(stretches, bad[choice])
        self.assertIn(as_by_one(keeping(program, evidence.fences), rule), (True, None))
        return len(right[0])

    def test_against_reference(self):
        numbers = []
        for program in (plain_programs(350, 60, MOVING, rows=(0, 4)) + plain_programs(351, 60, ("put", "get"), rows=(2, 3))
                        + plain_programs(352, 20, ("put", "get"), hands=(3, 4), rows=(1, 2))):
            if len(fences_of(program)) > 4:
                continue
            for fenced in (program, filled(program)):
                if len(fences_of(fenced)) <= 6:
                    numbers += [self.check_judged(fenced, rule) for rule in RULES]
        for number in (None, 0, 1, 2):
            self.assertGreater(numbers.count(number), 3, number)

    def test_swaps(self):
        for program in plain_programs(353, 60, ("put", "get", "swap", "fence"), rows=(2, 4)):
            for rule in RULES[:2]:
                if len(fences_of(program)) <= 6:
                    self.check_judged(program, rule)

    def test_known_programs(self):
        readers = ((GET, FENCE, THERE), (THERE, FENCE, GET))
        for program, expected in (
            (FENCED, [2, 2, 2]), (DOUBLE, [2, 2, 2]), (SIGNS, [None, None, None]), (MESSAGE, [0, None, 0]), (EMPTY, [0, 0, 0]),
            (EMPTIES, [0, 0, 0]), (((FENCE,) * 6,), [0, 0, 0]), (((PUT, FENCE, OTHER), (THERE, FENCE, GET)), [0, 1, 0]),
            (FOUR[:2] + readers, [0, 0, 2]), ((SIGNS[0], DOUBLE[1]), [None, None, None]),
            ((SIGNS[0] + (FENCE,), (FENCE,) + SIGNS[1]), [None, None, None]),
        ):
            self.assertEqual([self.check_judged(program, rule) for rule in RULES], expected, program)

    def test_the_first_of_equal_choices(self):
        for rule in RULES:
            evidence = spare(DOUBLE, rule)
            self.assertEqual(evidence.fences, ((0, 1), (1, 1)))
            self.assertEqual(list(evidence.against), [(), ((0, 1),), ((0, 2),), ((1, 1),)])
            # any choice of as many fences that is enough
            self.check_shown(Kept(((0, 2), (1, 1)), evidence.against), DOUBLE, rule)
            self.assertFalse(Kept(((0, 1), (0, 2)), evidence.against).shows(DOUBLE, rule))

    def test_keeping(self):
        for program in plain_programs(354, 30, MOVING + ("swap",), rows=(0, 4)) + [FENCED, DOUBLE, EMPTIES]:
            for choice in choices_in_order(program)[:40]:
                self.assertEqual(keeping(program, choice), kept(program, choice))
            self.assertEqual(keeping(program, tuple(fences_of(program))), program)
        self.assertEqual(keeping(FENCED, ()), SIGNS)
        self.assertEqual(keeping(DOUBLE, ((0, 2),)), ((PUT, FENCE, THERE), SIGNS[1]))

    def test_spoiled_fences(self):
        for rule in RULES:
            evidence = spare(FENCED, rule)
            self.assertEqual(evidence.fences, ((0, 1), (1, 2)))
            spoiled = [choice for choice in choices_in_order(FENCED) if choice != evidence.fences]
            spoiled += [None, 0, {}, [(0, 1), (1, 2)], ([0, 1], [1, 2]), ((1, 2), (0, 1)), ((0, 1), (0, 1), (1, 2)),
                        ((0, True), (1, 2)), ((False, 1), (1, 2)), ((0, 1), (True, 2)), ((0, 1), (1, 1)), ((0, 0), (1, 2)),
                        ((0, 1), (1, 2), (1, 4)), ((0, 1), (1, 2), None), ((0, 1), (1, 2), (2, 0))]
            self.check_spoiled(evidence, "fences", spoiled, FENCED, rule)
            # enough, but not the fewest ones
            more = ((0, 1), (0, 3), (1, 2))
            against = {choice: evidence.against.get(choice, RING) for choice in choices_in_order(FENCED) if len(choice) < 3}
            self.assertFalse(Kept(more, against).shows(FENCED, rule))
            self.assertFalse(Kept(more, evidence.against).shows(FENCED, rule))
            self.assertFalse(evidence.shows(DOUBLE, rule))
            self.assertFalse(evidence.shows(SIGNS, rule))
            self.assertTrue(Kept((), {}).shows(MESSAGE, "queues"))
            self.assertFalse(Kept((), {}).shows(MESSAGE, "lanes"))

    def test_spoiled_against(self):
        for program, rule in ((FENCED, "queues"), (FENCED, "views"), (DOUBLE, "lanes"),
                              (((PUT, FENCE, OTHER), (THERE, FENCE, GET)), "lanes")):
            evidence = spare(program, rule)
            against = evidence.against
            spoiled = [None, [], {}, list(against), list(against.items())]
            for choice, stretches in against.items():
                spoiled.append({other: against[other] for other in against if other != choice})
                right = self.right(kept(program, choice), rule)
                spoiled += [{**against, choice: wrong} for wrong in spoiled_rings(stretches) if wrong not in right]
                if against[()] not in right:
                    spoiled.append({**against, choice: against[()]})
            for choice in (evidence.fences, (None,), None, ((1, 1), (0, 1)), ((0, 0),)):
                spoiled.append({**against, choice: against[()]})
            spoiled.append({(((0, True),) if choice == ((0, 1),) else choice): against[choice] for choice in against}
                           if ((0, 1),) in against else None)
            self.check_spoiled(evidence, "against", spoiled, program, rule)
            evidence.against = {choice: against[choice] for choice in list(against)[::-1]}
            self.check_shown(evidence, program, rule)
            evidence.against[()].clear()
            self.assertFalse(evidence.shows(program, rule))

    def test_spoiled_unkept(self):
        program = (SIGNS[0] + (FENCE,), (FENCE,) + SIGNS[1])
        ring = [((0, 0), (0, 1)), ((1, 1), (1, 2))]
        for rule in RULES:
            evidence = Unkept(ring)
            right = self.right(program, rule)
            self.assertIn(ring, right)
            wrong = [other for other in spoiled_rings(ring) if other not in right] + [RING]
            self.check_spoiled(evidence, "stretches", wrong, program, rule)
            self.check_shown(Unkept(RING), SIGNS, rule)
            # the stretches are an attack only if fences go
            self.assertFalse(Unkept([((0, 0), (0, 2)), ((1, 1), (1, 3))]).shows(FENCED, rule))
            self.assertFalse(Unkept(RING).shows(FENCED, rule))
            for choice in choices_in_order(program):
                self.assertFalse(Kept(choice, {}).shows(program, rule))
        self.assertFalse(Unkept(RING).shows(MESSAGE, "queues"))

    def test_equality_and_copies(self):
        against = {(): RING}
        one, other = Kept(((0, 1),), against), Unkept(RING)
        lists = {(): tuple([list(doing) for doing in stretch] for stretch in RING)}
        made = Kept([[0, 1]], lists)
        self.assertEqual([made.fences, made.against, Unkept(lists[()]).stretches], [((0, 1),), {(): RING}, RING])
        self.check_equality(one, made, [
            Kept((), against), Kept(((0, True),), against), Kept(((0, 1),), {}), Kept(((0, 1),), {(): RING[:1]}),
            Kept(((0, 1),), {((0, 1),): RING}), other])
        self.check_equality(other, Unkept(lists[()]), [Unkept([]), Unkept(RING[::-1]), one])
        two = {(): RING, ((0, 1),): RING}
        self.assertEqual(Kept((), two), Kept((), {choice: two[choice] for choice in list(two)[::-1]}))
        ring, choice = [list(stretch) for stretch in RING], [[0, 1]]
        table = {(): ring}
        one, other = Kept(choice, table), Unkept(ring)
        for given in (ring[0], ring, choice[0], choice, table):
            given.clear()
        self.assertEqual([one, other], [made, Unkept(RING)])
        for _ in range(2):
            evidence = spare(FENCED, "queues")
            self.check_shown(evidence, FENCED, "queues")
            evidence.against[()].clear()
            self.assertEqual(len(evidence.against[((0, 1),)]), 2)
            evidence.against.clear()
            spare(SIGNS, "views").stretches.clear()
            self.check_shown(spare(SIGNS, "views"), SIGNS, "views")

    def test_errors(self):
        only = SIGNS + ((("only", 0, 0, 1), FENCE),)
        swap = SIGNS + ((("swap", 0, 0, 1),),)
        many = ((FENCE,) * 7,)
        for function in (spare, fewest_fences, Kept((), {}).shows, Unkept([]).shows):
            for program in BAD_PROGRAMS:
                self.assertRaises(BadProgram, function, program, None)
            for rule in BAD_RULES + ["one"]:
                self.assertRaises(BadRule, function, only, rule)
                self.assertRaises(BadRule, function, many, rule)
            for rule in RULES:
                self.assertRaises(NotPlain, function, only, rule)
                self.assertRaises(NotPlain, function, LOCK + many, rule)
            self.assertRaises(NotPlain, function, swap + many, "views")
        self.assertIs(fewest_fences(swap, "queues"), None)

    def check_limit(self, program, rule, is_large):
        for function in (spare, fewest_fences, Kept((), {}).shows, Unkept([]).shows):
            if is_large:
                self.assertRaises(TooLarge, function, program, rule)
            else:
                function(program, rule)

    def test_limits(self):
        hand = (PUT,) * 5 + (THERE,) * 8
        for rule in RULES:
            self.check_limit(((FENCE,) * 6,), rule, False)
            self.check_limit(((FENCE,) * 7,), rule, True)
            self.check_limit(((PUT, FENCE, FENCE, THERE), (FENCE, OTHER, FENCE, GET), (FENCE, FENCE)), rule, False)
            self.check_limit(((PUT, FENCE, FENCE, THERE), (FENCE, OTHER, FENCE, GET), (FENCE, FENCE, FENCE)), rule, True)
        for rule in RULES[:2]:
            self.check_limit((hand,), rule, False)
            # what counts is the program without any fence
            self.check_limit((hand, (PUT, FENCE, THERE)), rule, True)
            self.check_limit((hand[:5] + (FENCE,) + hand[5:], (PUT, FENCE, GET)), rule, False)
            self.check_limit((hand[:5] + (FENCE,) + hand[5:], SIGNS[0]), rule, True)
        five = ((PUT,) * 5,) * 3
        self.check_limit(five + ((PUT, FENCE) * 4 + (OTHER,),), "views", False)
        self.check_limit(five + ((PUT, FENCE) * 5 + (OTHER,),), "views", True)
        self.check_limit(((PUT,) * 10, (OTHER, FENCE, GET, THERE)), "views", True)


if __name__ == "__main__":
    unittest.main()
