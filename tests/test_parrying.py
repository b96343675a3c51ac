"""Fences against rings [34]."""

import random
import unittest
from itertools import combinations

from memoryviews.attacks import is_calm, judge_attack
from memoryviews.errors import BadPrices, BadProgram, BadRule, NotPlain, TooLarge
from memoryviews.fencing import least_cost, with_fences
from memoryviews.parrying import Parried, Unparried, least_parry, parry
from memoryviews.partings import is_whole, parting
from tests import rings
from tests.cases import BAD_PRICES, BAD_PROGRAMS, BAD_RULES, EMPTIES, EMPTY, FENCE, FOUR, HUGE, LOCK, MESSAGE, SIGNS
from tests.cases import EvidenceChecks
from tests.plain import plain_programs, spoiled_rings

RULES = ("queues", "lanes", "views")
PUT, OTHER = ("put", 0, 1), ("put", 1, 1)
GET, THERE = ("get", 0, 0), ("get", 0, 1)
PRICES = {(0, 1): 3, (1, 1): 2, (0, 2): 1}
RING = [((0, 0), (0, 1)), ((1, 0), (1, 1))]
# two gaps each of which is enough for a hand, at the same price
WIDE = (SIGNS[0][:1] + (("put", 2, 1),) + SIGNS[0][1:], SIGNS[1][:1] + (("put", 3, 1),) + SIGNS[1][1:])
EVEN = {(0, 1): 2, (0, 2): 2, (1, 1): 3, (1, 2): 3}
MOVING = ("put", "put", "give", "get", "get", "get")
FENCED = MOVING + ("fence",)


def choices_in_order(prices):
    """All choices, ordered by what they cost, then as tuples."""
    found = [choice for many in range(len(prices) + 1) for choice in combinations(sorted(prices), many)]
    return sorted(found, key=lambda choice: (sum(prices[gap] for gap in choice), choice))


def cost(choice, prices):
    return sum(prices[gap] for gap in choice)


def random_prices(source, program, most):
    gaps = [(hand, at) for hand, rows in enumerate(program) for at in range(len(rows) + 1)]
    return {gap: source.randint(1, 9) for gap in source.sample(gaps, min(len(gaps), source.randint(1, most)))}


class TestParrying(EvidenceChecks, unittest.TestCase):

    def check_judged(self, program, rule, prices):
        """Compare what is told with all rings of the program with the fences of each choice; return the cost."""
        evidence = parry(program, rule, prices)
        self.check_shown(evidence, program, rule, prices)
        choices = choices_in_order(prices)
        bad = {choice: rings.breaches(with_fences(program, choice), rule) for choice in choices}
        right = [choice for choice in choices if not bad[choice]]
        if right:
            self.assertIsInstance(evidence, Parried)
            least = cost(right[0], prices)
            self.assertEqual([evidence.choice, least_parry(program, rule, prices)], [right[0], least])
            self.assertEqual(list(evidence.against), [choice for choice in choices if cost(choice, prices) < least])
        else:
            self.assertIsInstance(evidence, Unparried)
            self.assertIs(least_parry(program, rule, prices), None)
            self.assertEqual(list(evidence.against), choices)
        for choice, stretches in evidence.against.items():
            self.assertIn(stretches, bad[choice] if rule != "views" else rotated(bad[choice]))
        return least_parry(program, rule, prices)

    def test_against_reference(self):
        source = random.Random(340)
        costs = []
        for program in plain_programs(341, 40, FENCED, rows=(0, 4)) + plain_programs(342, 60, MOVING, rows=(2, 3)):
            prices = random_prices(source, program, 4 if len(program) > 2 else 6)
            for rule in RULES:
                costs.append(self.check_judged(program, rule, prices))
        for program in plain_programs(348, 40, ("put", "get"), rows=(2, 4), hands=(2,), places=(2,)):
            # all gaps between two rows
            prices = {(hand, at): source.randint(1, 9) for hand, rows in enumerate(program) for at in range(1, len(rows))}
            for rule in RULES:
                costs.append(self.check_judged(program, rule, prices))
        self.assertGreater(costs.count(None), 20)
        self.assertGreater(costs.count(0), 20)
        self.assertGreater(len([number for number in costs if number]), 20)

    def test_swaps(self):
        source = random.Random(343)
        for program in plain_programs(344, 40, MOVING + ("swap",), rows=(2, 4)):
            for rule in RULES[:2]:
                self.check_judged(program, rule, random_prices(source, program, 4))

    def test_the_same_costs_as_those_of_cheapest_fences(self):
        source = random.Random(345)
        many = 0
        for program in plain_programs(346, 60, FENCED) + plain_programs(347, 60, MOVING, rows=(2, 3)):
            prices = random_prices(source, program, 4)
            for rule in RULES:
                try:
                    expected = least_cost(program, rule, prices)
                except TooLarge:
                    continue
                many += 1
                self.assertEqual(least_parry(program, rule, prices), expected, (program, rule, prices))
        self.assertGreater(many, 200)

    def test_known_programs(self):
        both = {(0, 1): 4, (1, 1): 5}
        for program, prices, expected in (
            (SIGNS, both, [9, 9, 9]), (SIGNS, {(0, 1): 1}, [None, None, None]), (SIGNS, PRICES, [5, 5, 5]),
            (MESSAGE, both, [0, 4, 0]), (MESSAGE, {(1, 1): 1, (0, 0): 1, (0, 2): 1, (1, 0): 1}, [0, None, 0]),
            (FOUR, {(2, 1): 2, (3, 1): 3, (0, 1): 1}, [0, 0, 5]), (FOUR, {(0, 1): 1, (1, 1): 1}, [0, 0, None]),
            (EMPTIES, {(3, 0): 9}, [0, 0, 0]), (EMPTY, {(0, 0): 1}, [0, 0, 0]),
        ):
            self.assertEqual([self.check_judged(program, rule, prices) for rule in RULES], expected, program)

    def test_one_gap_and_six(self):
        program = ((PUT, THERE), (OTHER, FENCE, GET))
        self.assertEqual(self.check_judged(program, "queues", {(0, 1): 9}), 9)
        self.assertEqual(self.check_judged(program, "queues", {(0, 2): 9}), None)
        six = {(0, 0): 1, (0, 1): 2, (0, 2): 3, (1, 0): 4, (1, 1): 5, (1, 2): 6}
        for rule in RULES:
            self.assertEqual(self.check_judged(SIGNS, rule, six), 7)
            self.assertRaises(BadPrices, parry, SIGNS + ((PUT,),), rule, {**six, (2, 0): 1})
        without = {gap: price for gap, price in six.items() if gap != (0, 1)}
        self.assertEqual(len(parry(SIGNS, "queues", {**without, (0, 0): 9}).against), 32)
        three = SIGNS + ((PUT,),)
        self.assertEqual(len(parry(three, "lanes", {**without, (2, 0): 1}).against), 64)

    def test_equal_costs(self):
        for rule in RULES:
            self.assertEqual(self.check_judged(WIDE, rule, EVEN), 5)
            evidence = parry(WIDE, rule, EVEN)
            self.assertEqual(list(evidence.against), [(), ((0, 1),), ((0, 2),), ((1, 1),), ((1, 2),), ((0, 1), (0, 2))])
            for choice in (((0, 1), (1, 1)), ((0, 1), (1, 2)), ((0, 2), (1, 1)), ((0, 2), (1, 2))):
                self.check_shown(Parried(choice, evidence.against), WIDE, rule, EVEN)
        # a choice of the same cost that is none
        prices = {(0, 0): 2, (0, 1): 2, (1, 1): 3}
        evidence = parry(SIGNS, "queues", prices)
        self.assertEqual(evidence.choice, ((0, 1), (1, 1)))
        self.assertFalse(Parried(((0, 0), (1, 1)), evidence.against).shows(SIGNS, "queues", prices))

    def test_prices_in_any_order(self):
        for gaps in (sorted(PRICES), sorted(PRICES)[::-1]):
            prices = {gap: PRICES[gap] for gap in gaps}
            self.assertEqual(parry(SIGNS, "lanes", prices), parry(SIGNS, "lanes", PRICES))
            self.assertEqual(list(parry(SIGNS, "lanes", prices).against), choices_in_order(PRICES)[:6])
            self.assertEqual(list(prices), gaps)

    def test_spoiled_choice(self):
        for rule in RULES:
            evidence = parry(SIGNS, rule, PRICES)
            self.assertEqual(evidence.choice, ((0, 1), (1, 1)))
            spoiled = [choice for choice in choices_in_order(PRICES) if choice != evidence.choice]
            spoiled += [None, 0, {}, [(0, 1), (1, 1)], ([0, 1], [1, 1]), ((1, 1), (0, 1)), ((0, 1), (0, 1), (1, 1)),
                        ((0, True), (1, 1)), ((False, 1), (1, 1)), ((0, 1), (True, True)), ((0, 0),), ((0, 1), (1, 1), None)]
            self.check_spoiled(evidence, "choice", spoiled, SIGNS, rule, PRICES)
            self.assertFalse(evidence.shows(SIGNS, rule, {(0, 1): 3, (1, 1): 2}))
            self.assertTrue(evidence.shows(SIGNS, rule, {(0, 1): 3, (1, 1): 3, (0, 2): 1}))
            # enough, but not the cheapest one
            against = {choice: evidence.against.get(choice, RING) for choice in choices_in_order(PRICES)[:-1]}
            self.assertFalse(Parried(((0, 1), (0, 2), (1, 1)), against).shows(SIGNS, rule, PRICES))
            self.assertFalse(Parried(((0, 1), (0, 2), (1, 1)), evidence.against).shows(SIGNS, rule, PRICES))

    def test_spoiled_against(self):
        for program, rule, prices in (
            (SIGNS, "queues", PRICES), (SIGNS, "views", PRICES), (MESSAGE, "lanes", {(0, 1): 2, (0, 0): 1}),
            (FOUR, "views", {(2, 1): 1, (3, 1): 2}), (SIGNS, "lanes", {(0, 1): 1, (0, 2): 1}),
        ):
            evidence = parry(program, rule, prices)
            against = evidence.against
            spoiled = [None, [], {}, list(against), list(against.items())]
            for choice, stretches in against.items():
                spoiled.append({other: against[other] for other in against if other != choice})
                right = rings.breaches(with_fences(program, choice), rule)
                right = rotated(right) if rule == "views" else right
                spoiled += [{**against, choice: wrong} for wrong in spoiled_rings(stretches) if wrong not in right]
                if against[()] not in right:
                    # the doings are those of another choice
                    spoiled.append({**against, choice: against[()]})
            for choice in (((1, 1), (0, 1)), (None,), None, ((0, 0),), ((0, 1), (0, 2), (1, 1))):
                if choice not in against:
                    spoiled.append({**against, choice: against[()]})
            spoiled.append({(((False, 1),) if choice == ((0, 1),) else choice): against[choice] for choice in against}
                           if ((0, 1),) in against else None)
            self.check_spoiled(evidence, "against", spoiled, program, rule, prices)
            evidence.against = {choice: against[choice] for choice in list(against)[::-1]}
            self.check_shown(evidence, program, rule, prices)
            evidence.against[()].clear()
            self.assertFalse(evidence.shows(program, rule, prices))

    def test_parried_and_unparried_are_not_both(self):
        one, both = {(0, 1): 1}, {(0, 1): 1, (1, 1): 1}
        for rule in RULES:
            against = parry(SIGNS, rule, one).against
            self.assertTrue(Unparried(against).shows(SIGNS, rule, one))
            for choice in against:
                self.assertFalse(Parried(choice, against).shows(SIGNS, rule, one))
                self.assertFalse(Parried(choice, {}).shows(SIGNS, rule, one))
            parried = parry(SIGNS, rule, both)
            self.assertFalse(Unparried(parried.against).shows(SIGNS, rule, both))
            self.assertFalse(Unparried({**parried.against, ((0, 1), (1, 1)): RING}).shows(SIGNS, rule, both))
            self.assertFalse(Parried(parried.choice, {**parried.against, parried.choice: RING}).shows(SIGNS, rule, both))

    def test_what_is_told_of_the_program_with_the_fences(self):
        for rule in RULES:
            evidence = parry(WIDE, rule, EVEN)
            fenced = with_fences(WIDE, evidence.choice)
            self.assertTrue(is_whole(fenced) if rule == "views" else is_calm(fenced, rule))
            for choice, stretches in evidence.against.items():
                program = with_fences(WIDE, choice)
                other = parting(program) if rule == "views" else judge_attack(program, rule)
                other.stretches = stretches
                self.assertTrue(other.shows(program) if rule == "views" else other.shows(program, rule))

    def test_equality_and_copies(self):
        against = {(): RING}
        parried, unparried = Parried(((0, 1),), against), Unparried(against)
        lists = {(): tuple([list(doing) for doing in stretch] for stretch in RING)}
        made = Parried([[0, 1]], lists)
        self.assertEqual([made.choice, made.against, Unparried(lists).against], [((0, 1),), {(): RING}, {(): RING}])
        self.check_equality(parried, made, [
            Parried((), against), Parried(((0, True),), against), Parried(((0, 1),), {}), Parried(((0, 1),), {(): RING[:1]}),
            Parried(((0, 1),), {((0, 1),): RING}), unparried])
        self.check_equality(unparried, Unparried(lists), [Unparried({}), Unparried({(): []}), Unparried({((0, 1),): RING}), parried])
        two = {(): RING, ((0, 1),): RING}
        self.assertEqual(Unparried(two), Unparried({choice: two[choice] for choice in list(two)[::-1]}))
        ring, choice = [list(stretch) for stretch in RING], [[0, 1]]
        table = {(): ring}
        parried, unparried = Parried(choice, table), Unparried(table)
        for given in (ring[0], ring, choice[0], choice, table):
            given.clear()
        self.assertEqual([parried, unparried], [made, Unparried(against)])
        for _ in range(2):
            evidence = parry(SIGNS, "queues", PRICES)
            self.check_shown(evidence, SIGNS, "queues", PRICES)
            evidence.against[()].clear()
            self.assertEqual(len(evidence.against[((1, 1),)]), 2)
            evidence.against.clear()

    def test_errors(self):
        only = SIGNS + ((("only", 0, 0, 1), FENCE),)
        swap = SIGNS + ((("swap", 0, 0, 1),),)
        for function in (parry, least_parry, Parried((), {}).shows, Unparried({}).shows):
            for program in BAD_PROGRAMS:
                self.assertRaises(BadProgram, function, program, None, None)
            for rule in BAD_RULES + ["one"]:
                self.assertRaises(BadRule, function, only, rule, None)
            for rule in RULES:
                self.assertRaises(NotPlain, function, only, rule, None)
                self.assertRaises(NotPlain, function, LOCK, rule, {})
                for prices in BAD_PRICES:
                    if not isinstance(prices, dict) or len(prices) < 5:
                        self.assertRaises(BadPrices, function, SIGNS, rule, prices)
                for many in (7, 8):
                    gaps = [(hand, at) for hand in range(3) for at in range(3)][:many]
                    self.assertRaises(BadPrices, function, SIGNS + MESSAGE[:1], rule, {gap: 1 for gap in gaps})
            self.assertRaises(NotPlain, function, swap, "views", None)
            self.assertRaises(BadPrices, function, swap, "queues", None)
            # such that there is no program any more
            full = (FENCE,) * 15
            self.assertRaises(BadPrices, function, (full,), "queues", {(0, 0): 1, (0, 3): 1})
            self.assertRaises(BadPrices, function, (full + (FENCE,),), "views", {(0, 0): 1})
        self.assertEqual(least_parry(((FENCE,) * 15,), "queues", {(0, 15): 1}), 0)

    def check_limit(self, program, rule, prices, is_large):
        for function in (parry, least_parry, Parried((), {}).shows, Unparried({}).shows):
            if is_large:
                self.assertRaises(TooLarge, function, program, rule, prices)
            else:
                function(program, rule, prices)

    def test_limits(self):
        hand = (PUT,) * 5 + (THERE,) * 8
        for rule in RULES[:2]:
            self.check_limit((hand,), rule, {(0, 5): 1}, False)
            self.check_limit((hand, SIGNS[0]), rule, {(0, 5): 1, (1, 1): 1}, True)
            # a fence of the program itself counts, but not one that could come in
            self.check_limit((hand, (PUT, FENCE, THERE)), rule, {(0, 5): 1, (1, 1): 1}, False)
            self.assertRaises(BadPrices, parry, (hand, SIGNS[0]), rule, {})
        self.check_limit(((PUT,) * 5,) * 4, "views", {(0, 0): 1}, False)
        self.check_limit(((PUT,) * 10, (OTHER, GET, FENCE, THERE)), "views", {(0, 0): 1}, True)
        # many states and stories do not matter
        self.assertEqual(least_parry(HUGE, "queues", {(0, 0): 1}), None)


def rotated(found):
    """All the rings, each also beginning with any other of its stretches."""
    return [ring[at:] + ring[:at] for ring in found for at in range(len(ring))]


if __name__ == "__main__":
    unittest.main()
