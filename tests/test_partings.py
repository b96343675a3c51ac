"""Partings [33]."""

import unittest

from memoryviews.attacks import Attack
from memoryviews.errors import BadProgram, NotPlain, TooLarge
from memoryviews.partings import Parting, is_whole, least_parting, parting
from tests import rings
from tests.cases import BAD_PROGRAMS, EMPTIES, EMPTY, FENCE, FOUR, LOCK, MESSAGE, SIGNS
from tests.cases import EvidenceChecks, exactly
from tests.plain import BARE, as_by_one, plain_programs, spoiled_rings

PUT, OTHER = ("put", 0, 1), ("put", 1, 1)
GET, THERE = ("get", 0, 0), ("get", 0, 1)
RING = [((0, 0), (0, 1)), ((1, 0), (1, 1))]
ROUND = [((0, 0), (0, 0)), ((2, 0), (2, 1)), ((1, 0), (1, 0)), ((3, 0), (3, 1))]
# words of programs in which there is often a parting
MOVING = ("put", "put", "give", "get", "get", "get")
FENCED = MOVING + ("fence",)
# the put of the first hand is read by the second one, in a program with all fences or without some
FAR = ((PUT,), (GET, FENCE, THERE), (OTHER, FENCE, GET))


def with_fences_between(program):
    """The program with a fence directly behind each row."""
    return tuple(tuple(part for row in hand for part in (row, FENCE)) for hand in program)


class TestPartings(EvidenceChecks, unittest.TestCase):

    def check_told(self, program):
        """Compare what is told of a program with all rings that are tried out."""
        partings = rings.partings(program)
        evidence = parting(program)
        self.assertIs(is_whole(program), not partings, program)
        if partings:
            self.check_shown(evidence, program)
            self.assertIn(evidence.stretches, partings)
            self.assertEqual(least_parting(program), min(rings.doings_count(ring) for ring in partings))
        else:
            self.assertIs(evidence, None)
            self.assertIs(least_parting(program), None)
        return partings

    def test_against_reference(self):
        many = []
        for program in plain_programs(330, 80, FENCED, rows=(0, 4)) + plain_programs(331, 80, FENCED, hands=(3, 4), rows=(1, 2)):
            many.append(len(self.check_told(program)) > 0)
        for program in plain_programs(332, 200, MOVING, hands=(2, 3), rows=(2, 3)):
            many.append(len(self.check_told(program)) > 0)
        self.assertGreater(min(many.count(True), many.count(False)), 40)

    def test_known_programs(self):
        for program, least in (
            (SIGNS, 4), (MESSAGE, None), (FOUR, 6), (FAR, None), (EMPTY, None), (EMPTIES, None),
            (((PUT,), (GET, THERE), (OTHER, FENCE, GET)), 5), (((PUT,), (GET, FENCE, THERE), (OTHER, GET)), 5),
            (((PUT, FENCE, THERE), (OTHER, GET)), 4), (((PUT, FENCE, THERE), (OTHER, FENCE, GET)), None),
            (((PUT, OTHER), (OTHER, PUT)), 4), (((PUT, FENCE, OTHER), (OTHER, FENCE, PUT)), None),
            (((THERE, PUT), (GET, OTHER)), None), (((PUT, ("put", 2, 1)), (("get", 0, 2), OTHER), (THERE, GET)), None),
            (FOUR[:2] + ((GET, FENCE, THERE), (THERE, FENCE, GET)), None), (FOUR[:2] + ((GET, FENCE, THERE), (THERE, GET)), 6),
        ):
            self.assertEqual(least_parting(program), least, program)
            self.check_told(program)

    def test_the_same_as_by_one(self):
        told = []
        for program in (plain_programs(333, 200, BARE) + plain_programs(334, 150, MOVING, hands=(2, 3), rows=(2, 3))
                        + plain_programs(335, 60, FENCED, hands=(3, 4), rows=(1, 2))):
            told.append(as_by_one(program, "views"))
            self.assertIn(told[-1], (is_whole(program), None), program)
        self.assertGreater(min(told.count(True), told.count(False)), 40)

    def test_all_rings(self):
        counts = {}
        for program in (plain_programs(336, 60, FENCED, rows=(3, 4)) + plain_programs(337, 20, FENCED, hands=(3, 4), rows=(1, 3))
                        + [SIGNS, FOUR, FAR, MESSAGE] + [with_fences_between(program) for program in plain_programs(
                            338, 60, MOVING, rows=(2, 3))]):
            for ring in rings.rings(program)[:300]:
                fulfilled = rings.conditions(program, ring)
                self.assertIs(Parting(ring).shows(program), all(fulfilled), (program, ring))
                counts[fulfilled] = counts.get(fulfilled, 0) + 1
        # all three conditions, and each two of them without the third one
        for fulfilled in ((True, True, True), (False, True, True), (True, False, True), (True, True, False)):
            self.assertGreater(counts[fulfilled], 10, fulfilled)

    def check_condition(self, program, ring, expected):
        self.assertEqual(rings.conditions(program, ring), expected)
        self.assertIs(Parting(ring).shows(program), all(expected))
        for _ in range(len(ring)):
            ring = ring[1:] + ring[:1]
            self.assertIs(Parting(ring).shows(program), all(expected))

    def test_doings_meet_at_joints_alone(self):
        ring = [((0, 0), (0, 1)), ((1, 0), (1, 1)), ((2, 0), (2, 1))]
        far = ((PUT, THERE), (OTHER, ("put", 2, 1)), (("get", 0, 2), GET))
        self.check_condition(far, ring, (True, True, True))
        # the second doing of the last stretch meets the second one of the second stretch, too
        near = ((PUT, THERE), (OTHER, ("put", 2, 1)), (("get", 0, 2), ("put", 1, 2)))
        self.assertNotIn(ring, rings.rings(near))
        near = ((PUT, THERE), (OTHER, PUT), (GET, GET))
        self.check_condition(near, ring, (False, True, True))
        near = ((PUT, THERE), (("put", 1, 2), OTHER), (("get", 0, 1), GET))
        self.check_condition(near, ring, (False, True, True))
        # in both orders of the doings of a joint
        self.check_condition(((PUT, OTHER), (OTHER, PUT)), RING, (True, True, True))
        self.check_condition(((PUT, OTHER), (GET, OTHER)), RING[::-1], (False, False, True))

    def test_a_put_between_a_put_and_a_get(self):
        ring = [((0, 0), (0, 1)), ((1, 0), (1, 0)), ((2, 0), (2, 1))]
        program = ((THERE, PUT), (("put", 0, 2),), (GET, OTHER))
        self.check_condition(program, ring, (True, False, True))
        program = ((OTHER, PUT), (("put", 0, 2),), (GET, THERE))
        self.check_condition(program, ring, (True, True, True))
        program = ((OTHER, ("give", 0, 2)), (("give", 0, 1),), (GET, THERE))
        self.check_condition(program, ring, (True, True, True))
        # a put in place of the get, a get in place of the put ahead, and a get or two puts between
        self.check_condition(((OTHER, PUT), (("put", 0, 2),), (PUT, THERE)), ring, (False, True, True))
        self.check_condition(((OTHER, GET), (("put", 0, 2),), (PUT, THERE)), ring, (False, True, True))
        self.check_condition(((OTHER, PUT), (GET,), (PUT, THERE)), ring, (False, True, True))
        two = [((0, 0), (0, 1)), ((1, 0), (1, 1)), ((2, 0), (2, 1))]
        self.check_condition(((OTHER, PUT), (PUT, PUT), (GET, THERE)), two, (False, True, True))
        # the next but one is meant: not the next one of four, and not the other way round
        four = [((0, 0), (0, 1)), ((1, 0), (1, 0)), ((2, 0), (2, 0)), ((3, 0), (3, 1))]
        self.check_condition(((OTHER, PUT), (PUT,), (PUT,), (GET, THERE)), four, (False, True, True))
        self.check_condition(((OTHER, PUT), (PUT,), (GET,), (PUT, THERE)), four, (False, True, True))

    def test_a_get_ahead_of_the_put(self):
        ring = [((0, 0), (0, 1)), ((1, 0), (1, 0)), ((2, 0), (2, 1)), ((3, 0), (3, 1))]
        program = ((THERE, PUT), (("put", 0, 2),), (GET, ("get", 0, 2)), (("put", 2, 1), OTHER))
        self.check_condition(program, ring, (True, True, True))

    def test_stretches_of_two_hands_and_backwards(self):
        for program, ring in ((((PUT, THERE), (GET, OTHER)), [((0, 0), (0, 1)), ((1, 1), (1, 0))]),
                              (((PUT, THERE), (OTHER,), (GET,)), [((0, 0), (0, 1)), ((1, 0), (2, 0))])):
            self.assertFalse(Parting(ring).shows(program))
            self.check_told(program)
            self.assertTrue(is_whole(program))

    def test_places_and_passings(self):
        ring = [((0, 0), (0, 0)), ((1, 0), (1, 0))]
        self.check_condition(((PUT,), (PUT,)), ring, (True, False, True))
        self.check_condition(((PUT,), (GET,)), ring, (True, False, True))
        # all joints are handings
        self.check_condition(((GET, OTHER), (THERE, PUT)), RING, (True, False, False))
        # one passing alone
        self.check_condition(((PUT, OTHER), (THERE, GET)), RING, (True, False, True))
        self.check_condition(((PUT, OTHER), (THERE, PUT)), RING, (True, False, True))
        # two of them
        self.check_condition(((PUT, OTHER), (OTHER, GET)), RING, (True, True, True))

    def test_fences_in_each_part(self):
        put_there = ("put", 2, 1)
        ring = [((0, 0), (0, 2)), ((1, 0), (1, 2)), ((2, 0), (2, 2))]
        # joints: from the first hand to the second one a passing, then a handing, then a passing
        for first in (FENCE, ("get", 1, 3)):
            for second in (FENCE, ("get", 1, 3)):
                for third in (FENCE, ("get", 1, 3)):
                    program = ((PUT, first, THERE), (OTHER, second, put_there), (("get", 0, 2), third, GET))
                    free = first != FENCE or (second != FENCE and third != FENCE)
                    self.check_condition(program, ring, (True, True, free))
        # fences that are not between the doings
        program = ((FENCE,) + SIGNS[0] + (FENCE,), (FENCE,) + SIGNS[1] + (FENCE,))
        self.check_condition(program, [((0, 1), (0, 2)), ((1, 1), (1, 2))], (True, True, True))
        self.check_condition(FAR, [((0, 0), (0, 0)), ((1, 0), (1, 2)), ((2, 0), (2, 2))], (True, True, False))

    def test_spoiled(self):
        for program, ring in ((SIGNS, RING), (FOUR, ROUND), (((FENCE,) + SIGNS[0], SIGNS[1] + (FENCE,)),
                                                             [((0, 1), (0, 2)), ((1, 0), (1, 1))])):
            partings = rings.partings(program)
            self.assertIn(ring, partings)
            wrong = [other for other in spoiled_rings(ring) if other not in partings or not exactly(other, ring)]
            wrong += [[ring[1], ring[0]] + ring[2:], ring[:1] * 2 + ring[1:], ring + ring]
            self.check_spoiled(Parting(ring), "stretches", [other for other in wrong if other not in partings], program)
        for at in range(4):
            self.check_shown(Parting(ROUND[at:] + ROUND[:at]), FOUR)
        self.assertFalse(Parting(ROUND[::-1]).shows(FOUR))
        self.assertFalse(Parting(RING).shows(MESSAGE))
        self.assertFalse(Parting(RING).shows(FOUR))
        self.assertFalse(Parting(ROUND).shows(SIGNS))
        self.assertFalse(Parting(RING).shows(((PUT, FENCE, THERE), (OTHER, FENCE, GET))))

    def test_equality_and_copies(self):
        stretches = [[[0, 0], [0, 1]], ((1, 0), (1, 1))]
        evidence = Parting(tuple(stretches))
        self.assertEqual(evidence.stretches, RING)
        self.check_equality(evidence, Parting(RING), [
            Parting([]), Parting(RING[::-1]), Parting([((0, 0), (0, True)), RING[1]]), Attack(RING)])
        stretches[0].clear()
        self.assertEqual(evidence.stretches, RING)
        for _ in range(2):
            found = parting(SIGNS)
            self.check_shown(found, SIGNS)
            found.stretches.clear()

    def test_errors(self):
        for function in (parting, is_whole, least_parting, Parting(RING).shows):
            for program in BAD_PROGRAMS:
                self.assertRaises(BadProgram, function, program)
            for hand in ((("only", 0, 0, 1), PUT), (("swap", 0, 0, 1),), (FENCE, ("swap", 0, 0, 1))):
                self.assertRaises(NotPlain, function, (hand,))
                self.assertRaises(NotPlain, function, SIGNS + (hand,))
                # ahead of what is too large
                self.assertRaises(NotPlain, function, ((PUT,) * 16, hand))
            self.assertRaises(NotPlain, function, LOCK)

    def test_limit(self):
        # just 60 stretches, and one more
        for program in (((PUT,) * 5, (OTHER,) * 5, (THERE,) * 5, (GET,) * 5),
                        ((PUT,) * 10, (OTHER, FENCE, GET) + (FENCE,) * 13, (FENCE, OTHER), (THERE, FENCE))):
            self.assertEqual(len(rings.stretches(program)), 60)
            for function in (parting, is_whole, least_parting, Parting(RING).shows):
                function(program)
        program = ((PUT,) * 10, (OTHER, FENCE, GET, FENCE, THERE))
        self.assertEqual(len(rings.stretches(program)), 61)
        for function in (parting, is_whole, least_parting, Parting(RING).shows):
            self.assertRaises(TooLarge, function, program)
        self.assertIs(is_whole(((PUT,) * 10,)), True)
        self.assertRaises(TooLarge, is_whole, ((PUT,) * 11,))


if __name__ == "__main__":
    unittest.main()
