"""One hand for two [27]."""

import random
import unittest

from memoryviews.errors import BadHand, BadOutcome, BadPair, BadProgram, BadRule, TooLarge
from memoryviews.merging import Narrower, Wider, always_narrower, is_narrower, judge_merging, merged, merged_outcome
from memoryviews.programs import is_program
from memoryviews.runs import outcomes
from tests.cases import ANYTHING, BAD_OUTCOMES, BAD_PROGRAMS, BAD_RULES, EMPTIES, FENCE, FULL, HUGE, MESSAGE, ONE_MORE, RULES
from tests.cases import SIGNS, UNSEEN
from tests.cases import EvidenceChecks, changed_runs, spoiled_states
from tests.reference import end_of_run, reference_outcomes, reference_states

# the put of the first hand is read by the second one, if they are one hand, before any other hand sees it
EARLY = ((("put", 0, 1),), (("get", 0, 0), ("get", 1, 1)), (("put", 1, 1), FENCE, ("get", 2, 0)))
SLOT = {"give": 2, "get": 1, "swap": 1, "only": 1}
BAD_HANDS = [thing for thing in ANYTHING if type(thing) is not int] + [3, -1, 10 ** 30, "0", (0,), [0]]


def slots(rows):
    return {row[SLOT[row[0]]] for row in rows if row[0] in SLOT}


def apart_hand(source, many, slot, places):
    """A hand of so many rows that has one register alone."""
    rows = []
    for at in range(many):
        word, place = source.choice(["put", "put", "get", "get", "give", "swap", "fence", "only"]), source.randrange(places)
        if word == "only" and at == many - 1:
            word = "put"
        rows.append({
            "put": ("put", place, source.randint(1, 3)), "give": ("give", place, slot), "get": ("get", slot, place),
            "swap": ("swap", slot, place, source.randint(1, 3)), "fence": FENCE,
            "only": ("only", slot, source.randrange(2), source.randint(1, max(1, many - at - 1))),
        }[word])
    return tuple(rows)


def apart_programs(seed, many, rows=3):
    """Programs, no two hands of which have a register in common."""
    source = random.Random(seed)
    found = []
    while len(found) < many:
        order = source.sample(range(3), 3)
        found.append(tuple(apart_hand(source, source.randint(0, rows), slot, source.choice([1, 2, 2]))
                           for slot in order[:source.choice([2, 2, 3])]))
    return found


def reference_merged(program, one, other):
    hands = [list(rows) for rows in program]
    hands[one] += hands.pop(other)
    return tuple(tuple(rows) for rows in hands)


def reference_outcome(program, one, other, outcome):
    hands, there = outcome
    both = [0, 0, 0]
    for hand in (one, other):
        for slot in slots(program[hand]):
            both[slot] = hands[hand][slot]
    rest = list(hands)
    rest[one] = tuple(both)
    del rest[other]
    return (tuple(rest), there)


def pairs_of(program):
    return [(one, other) for other in range(len(program)) for one in range(other)
            if not slots(program[one]) & slots(program[other])]


class TestMerging(EvidenceChecks, unittest.TestCase):

    def test_merged(self):
        for program in apart_programs(270, 60) + [SIGNS[:1] + MESSAGE[:1], EMPTIES, EARLY]:
            for one, other in pairs_of(program):
                expected = reference_merged(program, one, other)
                self.assertEqual(merged(program, one, other), expected)
                self.assertTrue(is_program(expected))
        self.assertEqual(merged(EMPTIES, 0, 3), ((), (), ()))
        self.assertEqual(merged(EMPTIES[:2], 0, 1), ((),))
        self.assertEqual(merged(EARLY, 0, 2), (EARLY[0] + EARLY[2], EARLY[1]))
        self.assertEqual(merged(MESSAGE + EARLY[:1], 1, 2), (MESSAGE[0], MESSAGE[1] + EARLY[0]))
        only = (("only", 0, 0, 1), ("put", 0, 1))
        self.assertEqual(merged((only, (("put", 1, 1),)), 0, 1), (only + (("put", 1, 1),),))

    def test_outcomes_that_belong(self):
        source = random.Random(271)
        for program in apart_programs(272, 40) + [EARLY, EMPTIES]:
            for one, other in pairs_of(program):
                for _ in range(5):
                    held = tuple(tuple(source.randrange(4) for _ in range(3)) for _ in program)
                    outcome = (held, tuple(source.randrange(4) for _ in range(4)))
                    self.assertEqual(merged_outcome(program, one, other, outcome),
                                     reference_outcome(program, one, other, outcome))

    def test_registers_of_both_and_of_neither(self):
        there = (3, 2, 1, 0)
        first, second = (("get", 0, 0),), (("only", 2, 1, 1), FENCE)
        outcome = (((1, 2, 3), (1, 1, 1), (3, 2, 1)), there)
        self.assertEqual(merged_outcome((first, (), second), 0, 2, outcome), (((1, 0, 1), (1, 1, 1)), there))
        self.assertEqual(merged_outcome((first, (), second), 0, 1, outcome), (((1, 0, 0), (3, 2, 1)), there))
        self.assertEqual(merged_outcome((first, (), second), 1, 2, outcome), (((1, 2, 3), (0, 0, 1)), there))
        for row in (("give", 0, 1), ("get", 1, 0), ("swap", 1, 0, 1)):
            self.assertEqual(merged_outcome(((row,), ()), 0, 1, (((1, 2, 3), (3, 3, 3)), there)), (((0, 2, 0),), there))
            self.assertEqual(merged_outcome(((), (row,)), 0, 1, (((1, 2, 3), (3, 1, 2)), there)), (((0, 1, 0),), there))

    def test_against_reference(self):
        wider = []
        for program in apart_programs(273, 40) + [EARLY, EMPTIES, EARLY + ((),)]:
            for one, other in pairs_of(program):
                for rule in RULES:
                    known = {reference_outcome(program, one, other, outcome) for outcome in reference_outcomes(program, rule)}
                    new = reference_outcomes(reference_merged(program, one, other), rule)
                    evidence = judge_merging(program, one, other, rule)
                    self.check_shown(evidence, program, one, other, rule)
                    narrower = set(new) <= known
                    self.assertIs(is_narrower(program, one, other, rule), narrower)
                    if narrower:
                        self.assertEqual(list(evidence.runs), new)
                        for outcome, run in evidence.runs.items():
                            end = end_of_run(program, rule, run)
                            self.assertEqual(reference_outcome(program, one, other, end), outcome)
                    else:
                        self.assertIsInstance(evidence, Wider)
                        self.assertNotIn(end_of_run(reference_merged(program, one, other), rule, evidence.run), known | {None})
                        self.assertEqual(sorted(evidence.states), sorted(reference_states(program, rule)))
                        wider.append(rule)
        self.assertEqual(sorted(set(wider)), ["lanes", "queues"])

    def test_always_narrower(self):
        self.assertEqual([always_narrower(rule) for rule in RULES], [True, False, False, True])
        self.assertEqual([is_narrower(EARLY, 0, 1, rule) for rule in RULES], [True, False, False, True])
        for program in apart_programs(274, 60):
            for one, other in pairs_of(program):
                for rule in ("one", "views"):
                    self.assertIs(is_narrower(program, one, other, rule), True, (program, one, other, rule))

    def test_spoiled_narrower(self):
        for rule in ("one", "views"):
            evidence = judge_merging(EARLY, 0, 1, rule)
            runs = evidence.runs
            first, last = list(runs)[0], list(runs)[-1]
            spoiled = [None, [], {}, {first: runs[first]}, {**runs, first: runs[last]}, {**runs, first: runs[first][:-1]},
                       {**runs, first: None}, {**runs, 5: []}, {**runs, UNSEEN: runs[last]}, {**runs, first: tuple(runs[first])},
                       {outcome: runs[outcome] for outcome in list(runs)[1:]}, list(runs.items())]
            spoiled += [{**runs, last: run} for run in changed_runs(runs[last]) if end_of_run(EARLY, rule, run) is None]
            # the outcome of the run itself, in place of the one that belongs to it
            spoiled.append({end_of_run(EARLY, rule, run): run for run in runs.values()})
            marked = (((bool(first[0][0][0]),) + first[0][0][1:],) + first[0][1:], first[1])
            self.assertEqual(marked, first)
            spoiled.append({(marked if outcome == first else outcome): runs[outcome] for outcome in runs})
            self.check_spoiled(evidence, "runs", spoiled, EARLY, 0, 1, rule)
            evidence.runs = {outcome: runs[outcome] for outcome in list(runs)[::-1]}
            self.check_shown(evidence, EARLY, 0, 1, rule)
            self.assertFalse(evidence.shows(EARLY, 0, 2, rule))
        self.assertFalse(judge_merging(EARLY, 0, 1, "one").shows(EARLY, 0, 1, "queues"))

    def test_spoiled_wider(self):
        for rule in ("queues", "lanes"):
            evidence = judge_merging(EARLY, 0, 1, rule)
            self.check_spoiled(evidence, "states", spoiled_states(evidence.states), EARLY, 0, 1, rule)
            both = merged(EARLY, 0, 1)
            known = {reference_outcome(EARLY, 0, 1, outcome) for outcome in reference_outcomes(EARLY, rule)}
            for run in changed_runs(evidence.run) + [judge_merging(EARLY, 0, 1, "one").runs[min(outcomes(both, "one"))]]:
                outcome = end_of_run(both, rule, run)
                other = Wider([], evidence.states)
                other.run = run
                self.assertIs(other.shows(EARLY, 0, 1, rule), outcome is not None and outcome not in known, run)
            # whole runs whose outcome belongs to one of the program
            for one in (((0, 0, 0), (0, 0, 0)), ((1, 1, 0), (0, 0, 1))):
                self.assertIn((one, (1, 1, 0, 0)), known)
            run = [("do", 0, None), ("move", 0) if rule == "queues" else ("move", 0, 0)] + [("do", 0, None)] * 2
            run += [("do", 1, None), ("move", 1) if rule == "queues" else ("move", 1, 1)] + [("do", 1, None)] * 2
            self.assertIsNotNone(end_of_run(both, rule, run))
            self.assertFalse(Wider(run, evidence.states).shows(EARLY, 0, 1, rule))
            # the states of the merged program
            self.assertFalse(Wider(evidence.run, list(reference_states(both, rule))).shows(EARLY, 0, 1, rule))
            self.assertFalse(evidence.shows(EARLY, 0, 2, rule))
            self.assertFalse(evidence.shows(EARLY, 0, 1, "one"))
            self.assertTrue(Wider(evidence.run, evidence.states[::-1]).shows(EARLY, 0, 1, rule))
            self.assertFalse(Narrower({}).shows(EARLY, 0, 1, rule))

    def test_equality_and_copies(self):
        run, outcome = [["do", 0, None]], (((0, 0, 0),), (0, 0, 0, 0))
        runs, states = {outcome: run}, [["a", []]]
        narrower, wider = Narrower(runs), Wider(tuple(run), tuple(states))
        self.assertEqual([narrower.runs, wider.run, wider.states],
                         [{outcome: [("do", 0, None)]}, [("do", 0, None)], [("a", ())]])
        self.check_equality(narrower, Narrower({outcome: (("do", 0, None),)}), [
            Narrower({}), Narrower({outcome: []}), Narrower({outcome: [("do", False, None)]}), wider])
        self.check_equality(wider, Wider([("do", 0, None)], [("a", ())]), [Wider([], states), Wider(run, []), narrower])
        run.clear()
        runs.clear()
        states.clear()
        self.assertEqual([narrower.runs, wider.run, wider.states],
                         [{outcome: [("do", 0, None)]}, [("do", 0, None)], [("a", ())]])
        for _ in range(2):
            evidence = judge_merging(EARLY, 0, 1, "views")
            self.check_shown(evidence, EARLY, 0, 1, "views")
            evidence.runs[list(evidence.runs)[0]].clear()
            evidence.runs.clear()
            evidence = judge_merging(EARLY, 0, 1, "queues")
            evidence.run.clear()
            evidence.states.clear()
            self.check_shown(judge_merging(EARLY, 0, 1, "queues"), EARLY, 0, 1, "queues")

    def all_functions(self):
        """All functions with the arguments program, one and other, each with arguments that come behind."""
        rest = [(judge_merging, (None,)), (is_narrower, (None,)), (Narrower({}).shows, (None,)), (Wider([], []).shows, (None,))]
        return [(merged, ()), (merged_outcome, (None,))] + rest

    def test_errors(self):
        for function, rest in self.all_functions():
            for program in BAD_PROGRAMS:
                self.assertRaises(BadProgram, function, program, None, None, *rest)
            for hand in BAD_HANDS:
                self.assertRaises(BadHand, function, EARLY, hand, 0, *rest)
                self.assertRaises(BadHand, function, EARLY, hand, None, *rest)
                self.assertRaises(BadHand, function, EARLY, 2, hand, *rest)
            for one, other in ((0, 0), (1, 1), (2, 2), (1, 0), (2, 0), (2, 1)):
                self.assertRaises(BadPair, function, EARLY, one, other, *rest)
        for rule in BAD_RULES:
            self.assertRaises(BadRule, always_narrower, rule)
            for function, _ in self.all_functions()[2:]:
                self.assertRaises(BadRule, function, EARLY, 0, 1, rule)
        # none of them is an outcome of three hands
        for outcome in BAD_OUTCOMES + [UNSEEN]:
            if outcome != ((((0, 0, 0),) * 3), (0, 0, 0, 0)):
                self.assertRaises(BadOutcome, merged_outcome, EARLY, 0, 1, outcome)

    def test_pairs_that_cannot_be_merged(self):
        rows = [("get", 0, 1), ("give", 1, 0), ("swap", 0, 0, 1), ("only", 0, 0, 1)]
        for function, rest in self.all_functions():
            for row in rows:
                for other in rows:
                    program = ((row, FENCE), (("get", 1, 0),), (("put", 0, 0), other, FENCE))
                    self.assertRaises(BadPair, function, program, 0, 2, *rest)
            # one register, and all of them
            every = tuple(("get", slot, 0) for slot in range(3))
            self.assertRaises(BadPair, function, (every, every), 0, 1, *rest)
            self.assertRaises(BadPair, function, (every, every[2:]), 0, 1, *rest)
            self.assertRaises(BadPair, function, HUGE, 0, 1, *rest)
            self.assertRaises(BadPair, function, ((FENCE,) * 8, (FENCE,) * 9), 0, 1, *rest)
            self.assertRaises(BadPair, function, ((FENCE,) * 16, (), (FENCE,)), 0, 2, *rest)
        self.assertEqual(merged(((FENCE,) * 8, (FENCE,) * 8), 0, 1), ((FENCE,) * 16,))
        self.assertEqual(merged(((FENCE,) * 16, (), ()), 0, 1), ((FENCE,) * 16, ()))
        # places and values are no registers
        self.assertEqual(len(merged(((("get", 1, 0), ("swap", 1, 0, 2)), (("get", 2, 0), ("put", 1, 1), ("only", 0, 1, 1), FENCE)), 0, 1)), 1)

    def check_limit(self, program, one, other, rule, is_large):
        for function in (judge_merging, is_narrower, Narrower({}).shows, Wider([], []).shows):
            if is_large:
                self.assertRaises(TooLarge, function, program, one, other, rule)
            else:
                function(program, one, other, rule)

    def test_limits(self):
        for rule in RULES:
            self.check_limit(FULL, 0, 3, rule, False)
            # too many states of both
            self.check_limit(ONE_MORE[rule] + ((),), 0, 3, rule, True)
            self.assertEqual(len(merged(ONE_MORE[rule] + ((),), 0, 3)), 3)
            # of the program alone
            program = ((FENCE,) * 15, (FENCE,) * 9, (FENCE,) * 9, (FENCE,))
            self.assertEqual(len(outcomes(merged(program, 2, 3), rule)), 1)
            self.check_limit(program, 2, 3, rule, True)
        # of the merged program alone, since only there the first puts are done
        puts = tuple(("put", at % 4, (at + 1) % 4) for at in range(9))
        second = (("get", 0, 0), ("get", 1, 1), ("only", 0, 1, 12), ("only", 1, 0, 11), ("get", 2, 2), ("only", 2, 1, 9)) + puts
        for many in (4, 5):
            third = (("put", 1, 1), FENCE, ("get", 0, 0), ("only", 0, 0, 1), ("put", 2, 1)) + (("get", 1, 3),) * many
            program = ((("put", 0, 1),), second, third)
            self.assertLess(len(reference_states(program, "lanes")), 600)
            self.check_limit(program, 0, 1, "lanes", many == 5)
            self.check_limit(program, 0, 1, "queues", False)


if __name__ == "__main__":
    unittest.main()
