"""Attacks [32]."""

import unittest

from memoryviews.attacks import Attack, Calm, is_calm, judge_attack, least_attack
from memoryviews.errors import BadProgram, BadRule, NotPlain, TooLarge
from tests import rings
from tests.cases import BAD_PROGRAMS, BAD_RULES, EMPTIES, EMPTY, FENCE, FOUR, HUGE, LOCK, MESSAGE, ONE_MORE, SIGNS
from tests.cases import EvidenceChecks, exactly
from tests.plain import PLAIN, as_by_one, plain_programs, spoiled_rings

QUEUED = ("queues", "lanes")
PUT, OTHER, SWAP = ("put", 0, 1), ("put", 1, 1), ("swap", 0, 2, 1)
GET = ("get", 0, 1)
# words of programs in which there is often an attack
MOVING = ("put", "put", "give", "get", "get", "get", "swap")
RING = [((0, 0), (0, 1)), ((1, 0), (1, 1))]
# three and four hands in a ring
THREE = ((PUT, GET), (OTHER, ("put", 2, 1)), (("get", 0, 2), ("get", 1, 0)))
ROUND = ((PUT, GET), (OTHER, ("put", 2, 1)), (("get", 0, 2), ("put", 3, 1)), (("get", 0, 3), ("get", 1, 0)))


class TestAttacks(EvidenceChecks, unittest.TestCase):

    def check_judged(self, program, rule):
        """Compare what is told of a program with all rings that are tried out."""
        attacks = rings.attacks(program, rule)
        evidence = judge_attack(program, rule)
        self.check_shown(evidence, program, rule)
        self.assertIs(is_calm(program, rule), not attacks, (program, rule))
        if attacks:
            self.assertIn(evidence.stretches, attacks)
            self.assertEqual(least_attack(program, rule), min(rings.doings_count(ring) for ring in attacks))
        else:
            self.assertIsInstance(evidence, Calm)
            self.assertIs(least_attack(program, rule), None)
            self.assertEqual(list(evidence.chains), rings.all_loose(program, rule))
            for stretch, chains in evidence.chains.items():
                self.assertEqual(sorted(chains), rings.chains(program, stretch))
        return attacks

    def test_against_reference(self):
        many = []
        for program in plain_programs(320, 120, PLAIN, rows=(0, 4)) + plain_programs(321, 60, MOVING, hands=(2, 3, 4)):
            for rule in QUEUED:
                many.append(len(self.check_judged(program, rule)) > 0)
        self.assertGreater(many.count(True), 20)
        self.assertGreater(many.count(False), 20)

    def test_known_programs(self):
        for program, queues, lanes in (
            (SIGNS, 4, 4), (MESSAGE, None, 4), (FOUR, None, None), (EMPTY, None, None), (EMPTIES, None, None),
            (THREE, 6, 6), (ROUND, 8, 8), (SIGNS[:1], None, None), (((PUT, GET), (OTHER, PUT)), 4, 4),
            (((PUT, GET), (OTHER,), (PUT,)), None, None), (((PUT, GET), (SWAP,), (OTHER, PUT)), 4, 4),
            (((PUT, FENCE, GET), (OTHER, PUT)), None, 4), (((PUT, FENCE, GET), (OTHER, FENCE, PUT)), None, None),
        ):
            self.assertEqual([least_attack(program, rule) for rule in QUEUED], [queues, lanes], program)
            for rule in QUEUED:
                self.check_judged(program, rule)

    def test_a_stretch_of_one_doing(self):
        # the second hand puts and swaps at both places at once only if its one doing meets both of the first hand
        self.assertEqual(least_attack(((PUT, GET), (("swap", 0, 1, 2), ("swap", 0, 0, 2))), "queues"), 4)
        program = ((PUT, GET), (OTHER,), (("get", 0, 1), ("put", 0, 2)))
        self.assertEqual(rings.doings_count([((0, 0), (0, 1)), ((1, 0), (1, 0)), ((2, 0), (2, 1))]), 5)
        self.assertEqual(least_attack(program, "queues"), 5)
        self.assertTrue(Attack([((0, 0), (0, 1)), ((1, 0), (1, 0)), ((2, 0), (2, 1))]).shows(program, "queues"))
        self.check_judged(program, "queues")

    def test_more_doings_than_are_needed(self):
        # the ring can also go through both puts of the second hand, and then has one doing more
        program = ((PUT, GET), (OTHER, ("put", 2, 1)), (("get", 0, 1), ("get", 0, 2), ("get", 1, 0)))
        longer = [((0, 0), (0, 1)), ((1, 0), (1, 1)), ((2, 1), (2, 2))]
        shorter = [((0, 0), (0, 1)), ((1, 0), (1, 0)), ((2, 0), (2, 2))]
        for rule in QUEUED:
            self.assertEqual([rings.doings_count(ring) for ring in (longer, shorter)], [6, 5])
            self.assertEqual(least_attack(program, rule), 5)
            for ring in (longer, shorter):
                self.check_shown(Attack(ring), program, rule)
            self.check_judged(program, rule)

    def test_hands_in_another_order(self):
        # through the second hand, then the third one, or the other way round, which has one doing less
        program = (
            (PUT, GET), (("get", 0, 1), ("put", 2, 1), OTHER, ("put", 3, 1)),
            (("get", 0, 3), ("put", 2, 2), ("put", 1, 2)), (("get", 0, 2), ("get", 1, 0)),
        )
        first = [((0, 0), (0, 1)), ((1, 2), (1, 3)), ((2, 0), (2, 1)), ((3, 0), (3, 1))]
        second = [((0, 0), (0, 1)), ((2, 2), (2, 2)), ((1, 0), (1, 1)), ((3, 0), (3, 1))]
        for ring in (first, second):
            self.check_shown(Attack(ring), program, "queues")
        self.assertEqual(least_attack(program, "queues"), 7)
        self.check_judged(program, "queues")

    def test_stretches_of_two_hands_and_backwards(self):
        back = ((PUT, GET), (("get", 0, 0), OTHER))
        apart = ((PUT, GET), (OTHER,), (("get", 0, 0),))
        for rule in QUEUED:
            self.assertFalse(Attack([((0, 0), (0, 1)), ((1, 1), (1, 0))]).shows(back, rule))
            self.assertFalse(Attack([((0, 0), (0, 1)), ((1, 0), (2, 0))]).shows(apart, rule))
            self.assertFalse(Attack([((0, 0), (0, 1)), ((2, 0), (1, 0))]).shows(apart, rule))
            for program in (back, apart):
                self.check_judged(program, rule)
                self.assertTrue(is_calm(program, rule))

    def test_the_same_as_by_one(self):
        told = []
        for program in plain_programs(322, 200, PLAIN) + plain_programs(323, 100, MOVING):
            for rule in QUEUED:
                told.append(as_by_one(program, rule))
                self.assertIn(told[-1], (is_calm(program, rule), None), (program, rule))
        self.assertGreater(min(told.count(True), told.count(False)), 40)

    def is_loose(self, hand, rule, stretch=None):
        """Whether the stretch from the first row of a hand to the last one is loose."""
        first, last = stretch or (0, len(hand) - 1)
        program = (hand, ())
        evidence = judge_attack(program, rule)
        self.assertIsInstance(evidence, Calm)
        found = ((0, first), (0, last)) in evidence.chains
        self.assertIs(found, rings.loose(program, rule, ((0, first), (0, last))))
        return found

    def test_loose_stretches_by_queues(self):
        give, get_here = ("give", 0, 0), ("get", 0, 0)
        for hand, expected in (
            ((PUT, GET), True), ((give, GET), True), ((PUT, get_here), False), ((give, get_here), False), ((PUT, OTHER), False),
            ((PUT, SWAP), False), ((GET, get_here), False), ((SWAP, GET), False), ((PUT,), False), ((GET,), False),
            ((PUT, FENCE, GET), False), ((PUT, SWAP, GET), False), ((PUT, ("swap", 0, 1, 1), GET), False),
            ((PUT, OTHER, GET), False), ((PUT, ("give", 1, 0), GET), False), ((PUT, PUT, GET), True),
            ((PUT, ("put", 2, 1), GET), True), ((PUT, get_here, GET), True), ((PUT, GET, GET), True),
            ((FENCE, PUT, GET), False), ((PUT, GET, FENCE), False),
        ):
            if FENCE in (hand[0], hand[-1]):
                at = hand.index(PUT)
                self.assertTrue(self.is_loose(hand, "queues", (at, at + 1)), hand)
            else:
                self.assertIs(self.is_loose(hand, "queues"), expected, hand)

    def test_loose_stretches_by_lanes(self):
        give, get_here = ("give", 0, 0), ("get", 0, 0)
        for hand, expected in (
            ((PUT, GET), True), ((give, GET), True), ((PUT, get_here), False), ((PUT, OTHER), True), ((give, OTHER), True),
            ((PUT, ("give", 1, 0)), True), ((PUT, PUT), False), ((PUT, give), False), ((PUT, SWAP), False),
            ((GET, get_here), False), ((SWAP, GET), False), ((SWAP, OTHER), False), ((GET, PUT), False),
            ((PUT, FENCE, GET), False), ((PUT, SWAP, GET), False), ((PUT, FENCE, OTHER), False),
            ((PUT, ("swap", 0, 1, 1), OTHER), False), ((PUT, OTHER, GET), True), ((PUT, ("give", 1, 0), GET), True),
            ((PUT, OTHER, OTHER), True), ((PUT, PUT, GET), True), ((PUT,), False),
        ):
            self.assertIs(self.is_loose(hand, "lanes"), expected, hand)

    def test_at_least_two_stretches_of_different_hands(self):
        self.check_shown(Attack(RING), SIGNS, "queues")
        self.assertFalse(Attack(RING[:1]).shows(SIGNS, "queues"))
        self.assertFalse(Attack([]).shows(SIGNS, "queues"))
        # twice the same hand
        program = ((PUT, GET, OTHER, ("get", 0, 0)), SIGNS[1])
        self.assertTrue(Attack([((0, 0), (0, 1)), ((1, 0), (1, 1))]).shows(program, "queues"))
        self.assertFalse(Attack([((0, 0), (0, 1)), ((0, 2), (0, 3))]).shows(program, "queues"))
        self.assertFalse(Attack(RING + RING).shows(SIGNS, "queues"))

    def test_all_rings_are_attacks_if_the_first_stretch_is_loose(self):
        shown = []
        for program in [SIGNS, MESSAGE, THREE] + plain_programs(324, 30, PLAIN) + plain_programs(326, 30, MOVING):
            for ring in rings.rings(program):
                for rule in QUEUED:
                    expected = rings.loose(program, rule, ring[0])
                    self.assertIs(Attack(ring).shows(program, rule), expected)
                    shown.append(expected)
        self.assertGreater(min(shown.count(True), shown.count(False)), 40)

    def test_spoiled_stretches(self):
        for program, rule, ring in (
            (SIGNS, "queues", RING), (SIGNS, "lanes", RING), (MESSAGE, "lanes", RING),
            (THREE, "queues", [((0, 0), (0, 1)), ((1, 0), (1, 1)), ((2, 0), (2, 1))]),
            (((FENCE,) + SIGNS[0], SIGNS[1] + (FENCE,)), "queues", [((0, 1), (0, 2)), ((1, 0), (1, 1))]),
        ):
            attack = Attack(ring)
            attacks = rings.attacks(program, rule)
            self.assertIn(ring, attacks)
            wrong = [other for other in spoiled_rings(ring) if other not in attacks or not exactly(other, ring)]
            # the first stretch is not loose, or another one; a doing is a fence
            wrong += [ring[1:] + ring[:1]] if not rings.loose(program, rule, ring[1]) else []
            wrong += [ring[::-1]] if len(ring) > 2 else []
            wrong += [[((0, 0), (0, 0))] + ring[1:], [((0, 1), (0, 1))] + ring[1:], [((0, 1), (0, 0))] + ring[1:]]
            self.check_spoiled(attack, "stretches", [other for other in wrong if other not in attacks], program, rule)
        # fences are no doings of stretches
        program = ((PUT, FENCE, GET), SIGNS[1])
        for ring in ([((0, 0), (0, 1)), ((1, 0), (1, 1))], [((0, 1), (0, 2)), ((1, 0), (1, 1))], RING):
            self.assertFalse(Attack(ring).shows(program, "queues"))
        # an attack of another program, or by another rule
        self.assertFalse(Attack(RING).shows(MESSAGE, "queues"))
        self.assertTrue(Attack(RING).shows(MESSAGE, "lanes"))
        self.assertFalse(Attack(RING).shows(FOUR, "lanes"))
        self.assertFalse(Attack(RING).shows(EMPTIES, "lanes"))

    def test_spoiled_chains(self):
        third = (("put", 3, 1), ("get", 0, 2))
        program = ((PUT, GET, ("get", 1, 2)), (OTHER, ("put", 2, 2)), third)
        calm = judge_attack(program, "queues")
        chains = calm.chains
        self.assertEqual(len(chains), 3)
        spoiled = [None, [], {}, list(chains), list(chains.items()), {**chains, ((0, 1), (0, 2)): []},
                   {**chains, None: []}, {**chains, ((1, 0), (1, 1)): [((1, 1), (1,))]},
                   {((False, stretch[0][1]), stretch[1]) if stretch[0] == (0, 0) else stretch: chains[stretch]
                    for stretch in chains}]
        for stretch in chains:
            own = chains[stretch]
            spoiled.append({other: chains[other] for other in chains if other != stretch})
            wrong = [None, {}, tuple(own), [], own[1:], own[:-1], own + own[:1], own[:-1] + own[:1] if len(own) > 1 else [],
                     own + [((1, 0), (0, 1, 2))], own[:-1] + [(own[-1][0], own[-1][1] + (3,))],
                     own[:-1] + [(own[-1][0], list(own[-1][1]))], own[:-1] + [list(own[-1])], own[:-1] + [own[-1][:1]],
                     own[:-1] + [(own[-1][0], own[-1][1][::-1])] if len(own[-1][1]) > 1 else None, own + [None],
                     own[:-1] + [(own[-1][::-1])], own[:-1] + [((own[-1][0][0], True), own[-1][1])]]
            spoiled += [{**chains, stretch: other} for other in wrong]
        self.check_spoiled(calm, "chains", spoiled, program, "queues")
        self.assertFalse(calm.shows(program, "lanes"))
        self.assertFalse(calm.shows(program[:2], "queues"))
        # any order of stretches, and of chains
        calm.chains = {stretch: chains[stretch][::-1] for stretch in list(chains)[::-1]}
        self.check_shown(calm, program, "queues")

    def test_calm_and_attack_are_never_both(self):
        for program in [SIGNS, MESSAGE, THREE, ROUND] + plain_programs(325, 20, PLAIN) + plain_programs(327, 20, MOVING):
            for rule in QUEUED:
                loose = rings.all_loose(program, rule)
                calm = Calm({stretch: rings.chains(program, stretch) for stretch in loose})
                self.assertIs(calm.shows(program, rule), not rings.attacks(program, rule))

    def test_equality_and_copies(self):
        stretches = [[[0, 0], [0, 1]], ((1, 0), (1, 1))]
        chains = {((0, 0), (0, 1)): [[[0, 1], [0]]]}
        attack, calm = Attack(tuple(stretches)), Calm(chains)
        self.assertEqual([attack.stretches, calm.chains], [RING, {((0, 0), (0, 1)): [((0, 1), (0,))]}])
        self.check_equality(attack, Attack(RING), [
            Attack(RING[:1]), Attack(RING[::-1]), Attack([((0, 0), (0, True)), RING[1]]), calm, Calm({})])
        self.check_equality(calm, Calm({((0, 0), (0, 1)): (((0, 1), (0,)),)}), [
            Calm({}), Calm({((0, 0), (0, 1)): []}), Calm({((0, 0), (0, 2)): [((0, 1), (0,))]}),
            Calm({((False, 0), (0, 1)): [((0, 1), (0,))]}), attack, Attack([])])
        two = {RING[0]: [], RING[1]: []}
        self.assertEqual(Calm(two), Calm({RING[1]: [], RING[0]: []}))
        stretches[0].clear()
        chains[((0, 0), (0, 1))].clear()
        chains.clear()
        self.assertEqual([attack.stretches, calm.chains], [RING, {((0, 0), (0, 1)): [((0, 1), (0,))]}])
        for _ in range(2):
            judge_attack(SIGNS, "queues").stretches.clear()
            calm = judge_attack(((PUT, GET),), "queues")
            self.assertEqual(calm.chains, {((0, 0), (0, 1)): [((0, 1), (0,))]})
            calm.chains[((0, 0), (0, 1))].clear()
            calm.chains.clear()

    def test_errors(self):
        functions = (judge_attack, is_calm, least_attack, Attack(RING).shows, Calm({}).shows)
        for function in functions:
            for program in BAD_PROGRAMS:
                self.assertRaises(BadProgram, function, program, None)
            for rule in BAD_RULES + ["one", "views"]:
                self.assertRaises(BadRule, function, SIGNS, rule)
                self.assertRaises(BadRule, function, LOCK, rule)
            for rule in QUEUED:
                self.assertRaises(NotPlain, function, LOCK, rule)
                self.assertRaises(NotPlain, function, ((("only", 0, 0, 1), FENCE),), rule)

    def test_limit(self):
        # just 40 loose stretches, and one more
        hand = (("put", 0, 1),) * 5 + (("get", 0, 1),) * 8
        for rule in QUEUED:
            self.assertEqual(len(rings.all_loose((hand, ()), rule)), 40)
            self.assertEqual(len(judge_attack((hand, ()), rule).chains), 40)
            self.assertEqual(is_calm((hand, (OTHER, FENCE, PUT)), rule), False)
            for more in ((("put", 2, 1), ("get", 0, 3)), (FENCE, ("give", 2, 1), ("get", 0, 0), FENCE)):
                for function in (judge_attack, is_calm, least_attack, Attack(RING).shows, Calm({}).shows):
                    self.assertRaises(TooLarge, function, (hand, more), rule)
            # the error for rows that are not plain comes first
            self.assertRaises(NotPlain, judge_attack, (hand, SIGNS[0], (("only", 0, 0, 1), PUT)), rule)
        # programs of which too many states or stories come about
        self.assertRaises(TooLarge, is_calm, ((PUT, OTHER) * 8,), "lanes")
        self.assertIs(is_calm(((PUT, OTHER) * 8,), "queues"), True)
        self.assertIs(is_calm(ONE_MORE["queues"], "queues"), True)
        self.assertIs(is_calm(HUGE, "queues"), False)


if __name__ == "__main__":
    unittest.main()
