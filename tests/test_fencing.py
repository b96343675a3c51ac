"""The cheapest fences [21]."""

import random
import unittest
from copy import deepcopy
from itertools import combinations

from memoryviews.errors import BadPrices, BadProgram, BadRule, TooLarge
from memoryviews.fencing import Cheapest, Unfenced, cheapest_fences, least_cost, with_fences
from memoryviews.lines import Lined, Loose, is_as_by_one, judge_lines
from memoryviews.programs import is_program
from memoryviews.runs import outcomes
from memoryviews.stories import Story, count_stories
from tests.cases import BAD_PRICES, BAD_PROGRAMS, BAD_RULES, EMPTIES, FENCE, FOUR, LOCK, MESSAGE, RULES, SIGNS
from tests.cases import STORIES_600, STORIES_601, EvidenceChecks, parts, random_programs
from tests.reference import bars, reference_circles, reference_stories

PRICES = {(0, 1): 3, (1, 1): 2, (0, 2): 1}
STORY = Story({(0, 1): (None, 1), (1, 1): (None, 0)},
              (((None, 0), (0, 0)), ((None, 1), (1, 0)), ((None, 2),), ((None, 3),)), ())
CIRCLE = [((0, 0), "row"), ((0, 1), "past"), ((1, 0), "row"), ((1, 1), "past")]
LINE = [(0, 0), (0, 1), (1, 0), (1, 1)]
PUT, GET = ("put", 0, 1), ("get", 0, 1)
# both hands put, do something else, and get: a fence is enough on either side of what stands between
WIDE = ((PUT, ("get", 2, 2), GET), (("put", 1, 1), ("get", 2, 2), ("get", 0, 0)))
EVEN = {(0, 1): 2, (0, 2): 2, (1, 1): 3, (1, 2): 3}


def reference_choices(prices):
    """All choices in their order, found one by one."""
    gaps = sorted(prices)
    choices = [tuple(gap for at, gap in enumerate(gaps) if marks >> at & 1) for marks in range(2 ** len(gaps))]
    return sorted(choices, key=lambda choice: (sum(prices[gap] for gap in choice), choice))


def reference_fences(program, choice):
    """The program with fences, where each row and fence knows which onlys leave it out."""
    hands = []
    for hand, rows in enumerate(program):
        left_out = {at: {only for only, row in enumerate(rows) if row[0] == "only" and only < at <= only + row[3]}
                    for at in range(len(rows))}
        items = []
        for at in range(len(rows) + 1):
            if (hand, at) in choice:
                items.append((FENCE, left_out.get(at, set())))
            if at < len(rows):
                row = rows[at]
                if row[0] == "only":
                    row = row + (at,)
                items.append((row, left_out[at]))
        found = []
        for row, _ in items:
            if row[0] == "only":
                row = row[:3] + (len([onlys for _, onlys in items if row[4] in onlys]),)
            found.append(row)
        hands.append(tuple(found))
    return tuple(hands)


def random_prices(source, program, many):
    """Prices of at most so many gaps of a program."""
    gaps = [(hand, at) for hand, rows in enumerate(program) for at in range(len(rows) + 1)]
    gaps = source.sample(gaps, min(many, len(gaps)))
    return {gap: source.choice((1, 1, 2, 3, 9)) for gap in gaps}


class TestFences(unittest.TestCase):

    def test_where_fences_come(self):
        program = ((PUT, GET), ())
        self.assertEqual(with_fences(program, ()), program)
        self.assertEqual(with_fences(program, ((0, 0),)), ((FENCE, PUT, GET), ()))
        self.assertEqual(with_fences(program, ((0, 1),)), ((PUT, FENCE, GET), ()))
        self.assertEqual(with_fences(program, ((0, 2),)), ((PUT, GET, FENCE), ()))
        self.assertEqual(with_fences(program, ((1, 0),)), ((PUT, GET), (FENCE,)))
        self.assertEqual(with_fences(program, ((0, 0), (0, 1), (0, 2), (1, 0))), ((FENCE, PUT, FENCE, GET, FENCE), (FENCE,)))
        self.assertEqual(with_fences((((FENCE,),) * 4), ((1, 0), (3, 1))), ((FENCE,), (FENCE,) * 2, (FENCE,), (FENCE,) * 2))

    def test_what_an_only_leaves_out(self):
        only = ("only", 1, 2, 2)
        hand = (PUT, only, GET, PUT, GET)
        for at, many in ((0, 2), (1, 2), (2, 3), (3, 3), (4, 2), (5, 2)):
            rows = with_fences((hand,), ((0, at),))[0]
            self.assertEqual(rows[at], FENCE)
            self.assertEqual([row for row in rows if row[0] == "only"], [("only", 1, 2, many)], at)
            # what is left out are the same rows, with the fence only ahead of one of them
            behind = rows.index(("only", 1, 2, many)) + many + 1
            self.assertEqual(rows[behind:], (FENCE, GET) if at == 4 else (GET, FENCE) if at == 5 else (GET,))
        both = with_fences((hand,), ((0, 2), (0, 3)))[0]
        self.assertEqual(both, (PUT, ("only", 1, 2, 4), FENCE, GET, FENCE, PUT, GET))

    def test_an_only_that_leaves_out_all_behind(self):
        hand = (("only", 0, 0, 2), PUT, GET)
        self.assertEqual(with_fences((hand,), ((0, 3),)), ((("only", 0, 0, 2), PUT, GET, FENCE),))
        self.assertEqual(with_fences((hand,), ((0, 0), (0, 1), (0, 2), (0, 3))),
                         ((FENCE, ("only", 0, 0, 4), FENCE, PUT, FENCE, GET, FENCE),))

    def test_onlys_within_onlys(self):
        hand = (("only", 0, 0, 3), PUT, ("only", 1, 0, 1), GET, PUT)
        self.assertEqual(with_fences((hand,), ((0, 2),)),
                         ((("only", 0, 0, 4), PUT, FENCE, ("only", 1, 0, 1), GET, PUT),))
        self.assertEqual(with_fences((hand,), ((0, 3),)),
                         ((("only", 0, 0, 4), PUT, ("only", 1, 0, 2), FENCE, GET, PUT),))
        self.assertEqual(with_fences((hand,), ((0, 4),)), (hand[:4] + (FENCE, PUT),))

    def test_against_reference(self):
        source = random.Random(35)
        for program in random_programs(36, 150, rows=6) + [LOCK]:
            choice = tuple(sorted(random_prices(source, program, source.randint(1, 5))))
            fenced = with_fences(program, choice)
            self.assertEqual(fenced, reference_fences(program, choice))
            self.assertTrue(is_program(fenced))

    def test_by_one_fences_change_nothing(self):
        source = random.Random(37)
        for program in random_programs(38, 60, rows=4, hands=(1, 2)):
            fenced = with_fences(program, tuple(sorted(random_prices(source, program, 4))))
            self.assertEqual(outcomes(fenced, "one"), outcomes(program, "one"), program)


class TestCheapest(EvidenceChecks, unittest.TestCase):

    def check_judged(self, program, rule, prices):
        """Judge, and compare with what is found by trying all choices; returns the cost."""
        choices = reference_choices(prices)
        right = [choice for choice in choices if is_as_by_one(with_fences(program, choice), rule)]
        cost = None if not right else sum(prices[gap] for gap in right[0])
        evidence = cheapest_fences(program, rule, prices)
        self.assertEqual(least_cost(program, rule, prices), cost)
        self.check_shown(evidence, program, rule, prices)
        cheaper = [choice for choice in choices if cost is None or sum(prices[gap] for gap in choice) < cost]
        self.assertEqual(list(evidence.against), cheaper)
        for choice in cheaper:
            story, circle = evidence.against[choice]
            self.check_shown(Loose(story, circle), with_fences(program, choice), rule)
        if cost is None:
            self.assertIsInstance(evidence, Unfenced)
        else:
            self.assertIsInstance(evidence, Cheapest)
            self.assertIn(evidence.choice, right)
            self.assertEqual(sum(prices[gap] for gap in evidence.choice), cost)
            self.check_shown(Lined(evidence.lines), with_fences(program, evidence.choice), rule)
        return cost

    def test_all_choices_are_tried(self):
        source = random.Random(39)
        found = []
        for program in random_programs(40, 60, hands=(2, 2, 3)) + [SIGNS, MESSAGE, FOUR, WIDE, LOCK] * 4:
            prices = random_prices(source, program, source.randint(1, 4))
            for rule in RULES:
                found.append(self.check_judged(program, rule, prices))
        for program in [SIGNS, MESSAGE, FOUR, WIDE] * 4:
            gaps = [(hand, at) for hand, rows in enumerate(program) for at in range(1, len(rows))]
            prices = {gap: source.randint(1, 9) for gap in gaps}
            for rule in RULES:
                found.append(self.check_judged(program, rule, prices))
        self.assertGreater(found.count(None), 10)
        self.assertGreater(found.count(0), 100)
        self.assertGreater(len([cost for cost in found if cost]), 30)

    def test_by_the_reference(self):
        for rule, expected in zip(RULES, (0, 5, 5, 5)):
            for choice in reference_choices(PRICES):
                fenced = with_fences(SIGNS, choice)
                circles = [reference_circles(fenced, triple) for triple in reference_stories(fenced, rule)]
                loose = any(any(bars(fenced, "one", circle) for circle in found) for found in circles
                            if not any(bars(fenced, rule, circle) for circle in found))
                self.assertIs(loose, rule != "one" and choice not in (((0, 1), (1, 1)), ((0, 1), (0, 2), (1, 1))))
            self.assertEqual(self.check_judged(SIGNS, rule, PRICES), expected)

    def test_known_programs(self):
        both = {(0, 1): 4, (1, 1): 5}
        for program, prices, expected in (
            (SIGNS, both, [0, 9, 9, 9]), (SIGNS, {(0, 1): 1}, [0, None, None, None]),
            (MESSAGE, both, [0, 0, 4, 0]), (MESSAGE, {(1, 1): 1, (0, 0): 1, (0, 2): 1, (1, 0): 1}, [0, 0, None, 0]),
            (FOUR, {(2, 1): 2, (3, 1): 3, (0, 1): 1}, [0, 0, 0, 5]), (FOUR, {(0, 1): 1, (1, 1): 1}, [0, 0, 0, None]),
            (LOCK, {(0, 1): 1, (1, 1): 9, (0, 3): 1, (1, 4): 1}, [0, 10, 10, 10]), (EMPTIES, {(3, 0): 9}, [0, 0, 0, 0]),
        ):
            self.assertEqual([self.check_judged(program, rule, prices) for rule in RULES], expected, program)

    def test_one_gap_and_four_gaps(self):
        self.assertEqual(self.check_judged(SIGNS[:1], "views", {(0, 0): 1}), 0)
        program = ((PUT, GET), (("put", 1, 1), FENCE, ("get", 0, 0)))
        self.assertEqual(self.check_judged(program, "queues", {(0, 1): 9}), 9)
        self.assertEqual(self.check_judged(program, "queues", {(0, 1): 1}), 1)
        self.assertEqual(self.check_judged(program, "queues", {(0, 2): 1}), None)
        prices = {(1, 1): 9, (1, 0): 9, (0, 1): 9, (0, 0): 9}
        self.assertEqual(self.check_judged(SIGNS, "lanes", prices), 18)
        self.assertEqual(len(cheapest_fences(SIGNS, "lanes", prices).against), 5)
        self.assertEqual(len(cheapest_fences(SIGNS, "lanes", {(0, 0): 1, (0, 2): 1, (1, 0): 1, (1, 2): 1}).against), 16)

    def test_equal_costs(self):
        for rule in RULES[1:]:
            self.assertEqual(self.check_judged(WIDE, rule, EVEN), 5)
            evidence = cheapest_fences(WIDE, rule, EVEN)
            # no choice of the same cost is among those against
            self.assertEqual(list(evidence.against), [(), ((0, 1),), ((0, 2),), ((1, 1),), ((1, 2),), ((0, 1), (0, 2))])
            for choice in (((0, 1), (1, 1)), ((0, 1), (1, 2)), ((0, 2), (1, 1)), ((0, 2), (1, 2))):
                lines = judge_lines(with_fences(WIDE, choice), rule).lines
                self.check_shown(Cheapest(choice, lines, evidence.against), WIDE, rule, EVEN)

    def test_choices_are_ordered_by_cost_first(self):
        prices = {(0, 0): 3, (0, 2): 1, (1, 0): 2}
        self.assertEqual(list(cheapest_fences(SIGNS, "queues", prices).against), [
            (), ((0, 2),), ((1, 0),), ((0, 0),), ((0, 2), (1, 0)), ((0, 0), (0, 2)), ((0, 0), (1, 0)),
            ((0, 0), (0, 2), (1, 0))])

    def test_prices_in_any_order(self):
        for gaps in (sorted(PRICES), sorted(PRICES)[::-1]):
            prices = {gap: PRICES[gap] for gap in gaps}
            self.assertEqual(self.check_judged(SIGNS, "queues", prices), 5)
            self.assertEqual(cheapest_fences(SIGNS, "queues", prices), cheapest_fences(SIGNS, "queues", PRICES))
            self.assertEqual(list(prices), gaps)

    def test_no_fence_is_needed(self):
        evidence = cheapest_fences(MESSAGE, "queues", {(0, 0): 1})
        self.assertEqual([evidence.choice, evidence.against], [(), {}])
        self.assertEqual(evidence.lines, judge_lines(MESSAGE, "queues").lines)

    def test_onlys_leave_out_fences(self):
        # the fence is left out with the put behind it, but a fence behind both is not
        hand = (("get", 0, 3), PUT, ("only", 0, 0, 1), ("put", 2, 1), GET)
        program = (hand, (("put", 1, 1), FENCE, ("get", 0, 0)), (("put", 3, 1),))
        prices = {(0, 3): 1, (0, 4): 2}
        self.assertEqual(self.check_judged(program, "queues", prices), 2)
        self.assertEqual(cheapest_fences(program, "queues", prices).choice, ((0, 4),))

    def test_hands_that_are_full(self):
        full = (FENCE,) * 15
        for program, prices, right in (
            ((full,), {(0, 0): 1}, True), ((full,), {(0, 15): 1}, True), ((full,), {(0, 0): 1, (0, 15): 1}, False),
            ((full + (FENCE,),), {(0, 0): 1}, False), ((full + (FENCE,),), {(0, 16): 1}, False),
            ((full, full + (FENCE,)), {(0, 7): 1}, True), ((full, full), {(0, 7): 1, (1, 8): 1}, True),
            ((full, full), {(0, 7): 1, (1, 8): 1, (0, 8): 1}, False),
            (((FENCE,) * 12,), {(0, 0): 1, (0, 3): 1, (0, 4): 1, (0, 12): 1}, True),
            (((FENCE,) * 13,), {(0, 0): 1, (0, 3): 1, (0, 4): 1, (0, 12): 1}, False),
        ):
            for rule in RULES[:3]:
                if right:
                    self.assertEqual(least_cost(program, rule, prices), 0)
                else:
                    self.assertRaises(BadPrices, least_cost, program, rule, prices)
        # an only that would leave out too much is in a hand with too many rows, too
        hand = (("only", 0, 0, 15),) + full
        self.assertRaises(BadPrices, cheapest_fences, (hand,), "one", {(0, 1): 1})
        self.assertEqual(with_fences((hand[:1] + full[1:] + (FENCE,),), ()), (hand,))

    def test_spoiled_choice(self):
        evidence = cheapest_fences(SIGNS, "queues", PRICES)
        self.assertEqual(evidence.choice, ((0, 1), (1, 1)))
        spoiled = [choice for choice in reference_choices(PRICES) if choice != evidence.choice]
        spoiled += [None, 0, [(0, 1), (1, 1)], ([0, 1], [1, 1]), ((1, 1), (0, 1)), ((0, 1), (0, 1), (1, 1)),
                    ((0, True), (1, 1)), ((False, 1), (1, 1)), ((0, 1), (True, True)), ((0, 1), (1, 1), (1, 2)), ((0, 0),), {}]
        self.check_spoiled(evidence, "choice", spoiled, SIGNS, "queues", PRICES)
        self.assertFalse(evidence.shows(SIGNS, "one", PRICES))
        self.assertFalse(evidence.shows(SIGNS, "queues", {(0, 1): 3, (1, 1): 2}))
        self.assertFalse(evidence.shows(SIGNS, "queues", {(0, 1): 3, (1, 1): 2, (1, 2): 1}))
        self.assertTrue(evidence.shows(SIGNS, "queues", {(0, 1): 3, (1, 1): 3, (0, 2): 1}))
        # a choice that is enough, but not the cheapest one
        choice = ((0, 1), (0, 2), (1, 1))
        lines = judge_lines(with_fences(SIGNS, choice), "queues").lines
        self.assertFalse(Cheapest(choice, lines, evidence.against).shows(SIGNS, "queues", PRICES))
        against = {other: evidence.against.get(other, (STORY, CIRCLE)) for other in reference_choices(PRICES)[:-1]}
        self.assertFalse(Cheapest(choice, lines, against).shows(SIGNS, "queues", PRICES))

    def test_spoiled_lines(self):
        evidence = cheapest_fences(SIGNS, "lanes", PRICES)
        lines = evidence.lines
        story, line = lines[0]
        loose = cheapest_fences(SIGNS, "queues", {(0, 1): 1}).against[((0, 1),)]
        spoiled = [None, {}, [], tuple(lines), lines[1:], lines + lines[:1], lines[1:] + [(story, line[::-1])],
                   lines[1:] + [(story, line[:-1])], lines[1:] + [(story, line + line[:1])], lines[1:] + [loose],
                   lines + [(loose[0], line)], judge_lines(SIGNS, "one").lines, lines[:-1] + lines[:1]]
        self.check_spoiled(evidence, "lines", spoiled, SIGNS, "lanes", PRICES)
        evidence.lines = lines[::-1]
        self.check_shown(evidence, SIGNS, "lanes", PRICES)

    def test_spoiled_against(self):
        for program, rule, prices in ((SIGNS, "queues", PRICES), (FOUR, "views", {(0, 1): 1, (3, 1): 2})):
            evidence = cheapest_fences(program, rule, prices)
            against = evidence.against
            spoiled = [None, [], list(against), list(against.items()), {}]
            for choice in against:
                story, circle = against[choice]
                spoiled.append({other: against[other] for other in against if other != choice})
                wrong = [None, story, circle, [story, circle], (story,), (story, circle, circle), (circle, story),
                         (story, circle[:-1]), (story, circle + circle[:1]), (story, circle[::-1]), (story, tuple(circle)),
                         (story, []), (None, circle), (Story({}, story.puts, story.fences), circle),
                         (Story(story.reads, story.puts, ((9, 9),)), circle)]
                spoiled += [{**against, choice: pair} for pair in wrong]
                if choice:
                    # the story of another choice has other doings
                    spoiled.append({**against, choice: against[()], (): against[choice]})
            # one that costs as much, or more, and what is no choice
            for choice in (((0, 1), (1, 1)), ((0, 1), (0, 2), (1, 1)), ((0, 0),), (None,), None, ((1, 1), (0, 1))):
                if choice not in against:
                    spoiled.append({**against, choice: against[()]})
            marked = {(((False, 1),) if choice == ((0, 1),) else choice): against[choice] for choice in against}
            spoiled.append(marked)
            self.check_spoiled(evidence, "against", spoiled, program, rule, prices)
            # dicts may be in any order
            evidence.against = {choice: against[choice] for choice in list(against)[::-1]}
            self.check_shown(evidence, program, rule, prices)
            evidence.against[()][1].clear()
            self.assertFalse(evidence.shows(program, rule, prices))

    def test_unfenced_and_cheapest_are_not_both(self):
        one = {(0, 1): 1}
        against = cheapest_fences(SIGNS, "queues", one).against
        self.assertTrue(Unfenced(against).shows(SIGNS, "queues", one))
        both = {(0, 1): 1, (1, 1): 1}
        cheapest = cheapest_fences(SIGNS, "queues", both)
        self.assertFalse(Unfenced(cheapest.against).shows(SIGNS, "queues", both))
        self.assertFalse(Unfenced({**cheapest.against, ((0, 1), (1, 1)): (STORY, CIRCLE)}).shows(SIGNS, "queues", both))
        for choice in against:
            self.assertFalse(Cheapest(choice, [], against).shows(SIGNS, "queues", one))

    def test_equality_and_copies(self):
        against = {(): (STORY, CIRCLE)}
        cheapest, unfenced = Cheapest(((0, 1),), [(STORY, LINE)], against), Unfenced(against)
        lists = {(): [STORY, tuple([list(doing), word] for doing, word in CIRCLE)]}
        made = Cheapest([[0, 1]], ([STORY, tuple(LINE)],), lists)
        self.assertEqual([made.choice, made.lines, made.against], [((0, 1),), [(STORY, LINE)], {(): (STORY, CIRCLE)}])
        self.assertEqual(Unfenced(lists).against, {(): (STORY, CIRCLE)})
        self.check_equality(cheapest, made, [
            Cheapest((), [(STORY, LINE)], against), Cheapest(((0, True),), [(STORY, LINE)], against),
            Cheapest(((0, 1),), [], against), Cheapest(((0, 1),), [(STORY, LINE[::-1])], against),
            Cheapest(((0, 1),), [(STORY, LINE)], {}), Cheapest(((0, 1),), [(STORY, LINE)], {(): (STORY, [])}),
            Cheapest(((0, 1),), [(STORY, LINE)], {((0, 1),): (STORY, CIRCLE)}), unfenced, STORY])
        self.check_equality(unfenced, Unfenced(lists), [
            Unfenced({}), Unfenced({(): (STORY, CIRCLE[1:])}), Unfenced({((0, 1),): (STORY, CIRCLE)}), cheapest])
        two = {(): (STORY, CIRCLE), ((0, 1),): (STORY, CIRCLE)}
        self.assertEqual(Unfenced(two), Unfenced({choice: two[choice] for choice in list(two)[::-1]}))
        self.assertEqual(list(Unfenced(two).against), list(two))
        story, circle, line, choice = Story(dict(STORY.reads), STORY.puts, ()), list(CIRCLE), list(LINE), [[0, 1]]
        lines, table = [(story, line)], {(): (story, circle)}
        cheapest, unfenced = Cheapest(choice, lines, table), Unfenced(table)
        for given in (story.reads, circle, line, choice, lines, table):
            given.clear()
        self.assertEqual([cheapest, unfenced], [made, Unfenced(against)])

    def test_what_is_returned_is_new(self):
        for _ in range(2):
            evidence = cheapest_fences(SIGNS, "queues", PRICES)
            self.check_shown(evidence, SIGNS, "queues", PRICES)
            evidence.lines[0][1].clear()
            evidence.lines[1][0].reads.clear()
            evidence.lines.clear()
            evidence.against[()][0].reads.clear()
            evidence.against[((1, 1),)][1].clear()
            evidence.against.clear()
        evidence = cheapest_fences(SIGNS, "queues", PRICES)
        choices = list(evidence.against)
        for one, other in combinations(choices, 2):
            self.assertIsNot(evidence.against[one][0], evidence.against[other][0])
        self.assertTrue(all(parts(story) for story, _ in evidence.lines))

    def test_errors(self):
        functions = (cheapest_fences, least_cost, Cheapest((), [], {}).shows, Unfenced({}).shows)
        for function in functions:
            for program in BAD_PROGRAMS:
                self.assertRaises(BadProgram, function, program, None, None)
            for rule in BAD_RULES:
                self.assertRaises(BadRule, function, STORIES_601, rule, {})
            for prices in BAD_PRICES:
                for rule in RULES:
                    self.assertRaises(BadPrices, function, SIGNS, rule, prices)
            self.assertRaises(BadPrices, function, STORIES_601, "one", {(0, 2): 1})
            self.assertRaises(BadPrices, function, STORIES_601, "one", {})
        prices = {(0, 1): 3, (1, 1): 10}
        before = deepcopy(prices)
        self.assertRaises(BadPrices, cheapest_fences, SIGNS, "one", prices)
        self.assertEqual(prices, before)

    def check_limit(self, program, rule, prices, is_large):
        for function in (cheapest_fences, least_cost, Cheapest((), [], {}).shows, Unfenced({}).shows):
            if is_large:
                self.assertRaises(TooLarge, function, program, rule, prices)
            else:
                function(program, rule, prices)

    def test_limits(self):
        for rule in RULES:
            # fences of one hand alone are in one order
            self.check_limit(STORIES_600, rule, {(0, 0): 1, (0, 4): 1, (0, 2): 1}, False)
            self.check_limit(STORIES_600, rule, {(0, 0): 1, (1, 1): 1}, rule == "views")
            self.check_limit(STORIES_601, rule, {(0, 0): 1}, True)
        self.assertEqual(least_cost(STORIES_600, "queues", {(0, 0): 1}), 0)

    def test_too_large_for_one_choice_alone(self):
        # without any fence more all is told, and it is as by one
        fences = ((FENCE,) * 5, (FENCE,) * 5)
        self.assertEqual([count_stories(fences, "views"), is_as_by_one(fences, "views")], [252, True])
        for gap in ((0, 0), (1, 5)):
            self.assertEqual(count_stories(with_fences(fences, (gap,)), "views"), 462)
            self.check_limit(fences, "views", {gap: 1}, False)
        self.check_limit(fences, "views", {(0, 0): 9, (1, 5): 1}, True)
        self.check_limit(fences, "queues", {(0, 0): 9, (1, 5): 1}, False)
        # just 600 stories with all fences, and more than that with one more
        puts = (tuple(("put", 0, value) for value in (1, 2, 3, 0, 1)) + (FENCE,) * 3, (FENCE,))
        self.assertEqual(count_stories(with_fences(puts, ((0, 8),)), "views"), 600)
        self.check_limit(puts, "views", {(0, 8): 1}, False)
        self.check_limit(puts, "views", {(0, 8): 1, (0, 0): 1}, True)
        self.check_limit(puts, "views", {(1, 0): 1}, True)


if __name__ == "__main__":
    unittest.main()
