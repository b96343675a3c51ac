"""Depths [28]."""

import unittest

from memoryviews.depths import Deep, judge_depth, least_depth, outcomes_within
from memoryviews.errors import BadDepth, BadProgram, TooLarge
from memoryviews.runs import outcomes
from tests.cases import ANYTHING, BAD_PROGRAMS, EMPTIES, EMPTY, EVERY, FOUR, FULL, HUGE, LOCK, LONG, MESSAGE, ONE_MORE, SIGNS
from tests.cases import UNSEEN
from tests.cases import EvidenceChecks, changed_runs, random_programs
from tests.reference import end_of_run, reference_outcomes, reference_states

BAD_DEPTHS = [thing for thing in ANYTHING if thing is True or thing is False or thing != 1] + [
    0, 65, 66, -2, 10 ** 30, "1", (1,), [1], {1: 1}]
SWAP = ("swap", 0, 1, 3)
# two swaps that are tied to messages that are not the last ones
TIED = ((("put", 0, 1), ("put", 0, 2), SWAP), (("put", 1, 1), ("put", 1, 2), ("swap", 0, 0, 3)))


def alike(many):
    """Two hands that each put so often, and then get where the other one puts."""
    return tuple(tuple(("put", at, value % 3 + 1) for value in range(many)) + (("get", 0, 1 - at),) for at in (0, 1))


class TestDepths(EvidenceChecks, unittest.TestCase):

    def test_outcomes_against_reference(self):
        for program in random_programs(280, 50, rows=4) + [SIGNS, MESSAGE, FOUR, EVERY, TIED, alike(3), EMPTY, EMPTIES]:
            for depth in (1, 2, 3, 4, 64):
                self.assertEqual(outcomes_within(program, depth), reference_outcomes(program, "views", depth=depth))

    def test_a_greater_depth_has_more(self):
        for program in random_programs(281, 60, rows=4) + [SIGNS, TIED, alike(4)]:
            found = [outcomes_within(program, depth) for depth in range(1, 7)]
            for one, other in zip(found, found[1:]):
                self.assertTrue(all(outcome in other for outcome in one))

    def test_a_depth_greater_than_the_puts_and_swaps_of_each_place(self):
        for program in random_programs(282, 60, rows=4) + [SIGNS, TIED, alike(4), LOCK]:
            many = {place: 0 for place in range(4)}
            for hand in program:
                for row in hand:
                    if row[0] in ("put", "give", "swap"):
                        many[row[2] if row[0] == "swap" else row[1]] += 1
            for depth in (max(many.values()) + 1, 64):
                self.assertEqual(outcomes_within(program, depth), outcomes(program, "views"))

    def test_judging(self):
        numbers = []
        for program in random_programs(283, 40, rows=4) + [SIGNS, MESSAGE, FOUR, LOCK, TIED, EMPTY, EMPTIES, alike(3)]:
            evidence = judge_depth(program)
            self.check_shown(evidence, program)
            self.assertEqual(least_depth(program), evidence.number)
            whole = reference_outcomes(program, "views")
            self.assertEqual(reference_outcomes(program, "views", depth=evidence.number), whole)
            self.assertEqual(list(evidence.lost), list(range(1, evidence.number)))
            for depth, run in evidence.lost.items():
                outcome = end_of_run(program, "views", run)
                self.assertIn(outcome, whole)
                self.assertNotIn(outcome, reference_outcomes(program, "views", depth=depth))
            numbers.append(evidence.number)
        self.assertTrue({1, 2, 3, 4} <= set(numbers), numbers)

    def test_known_programs(self):
        for program, number in ((SIGNS, 2), (MESSAGE, 1), (FOUR, 2), (TIED, 3), (LONG, 1), (EMPTY, 1), (alike(2), 3), (alike(5), 6)):
            self.assertEqual(least_depth(program), number)
        self.assertNotIn(UNSEEN, outcomes_within(SIGNS, 1))
        self.assertIn(UNSEEN, outcomes_within(SIGNS, 2))

    def test_depths_1_and_64(self):
        # with the depth 1, only last messages are got
        for program in random_programs(284, 30) + [SIGNS, TIED]:
            self.assertEqual(outcomes_within(program, 64), outcomes(program, "views"))
        self.assertEqual(len(outcomes_within(SIGNS, 1)), 3)
        program = alike(15)
        evidence = judge_depth(program)
        self.assertEqual([evidence.number, list(evidence.lost)], [16, list(range(1, 16))])
        self.check_shown(evidence, program)
        self.assertEqual(outcomes_within(program, 16), outcomes_within(program, 64))
        self.assertNotEqual(outcomes_within(program, 15), outcomes_within(program, 16))

    def test_swaps_of_messages_with_one_tied_behind(self):
        # a swap cannot come directly behind a message, ahead of one that is tied to it
        program = ((("swap", 0, 0, 1),), (("swap", 0, 0, 2),))
        for depth in (1, 2, 64):
            self.assertEqual(outcomes_within(program, depth), outcomes(program, "one"))
        lost = [outcome for outcome in outcomes(TIED, "views") if outcome not in outcomes_within(TIED, 2)]
        self.assertEqual(lost, [(((0, 0, 0), (0, 0, 0)), (2, 2, 0, 0))])

    def test_spoiled(self):
        evidence = judge_depth(TIED)
        self.assertEqual(evidence.number, 3)
        self.check_spoiled(evidence, "number", [0, 1, 2, 4, 64, 65, -1, None, True, "3", (3,)], TIED)
        lost = evidence.lost
        some = [("do", 0, 1), ("do", 0, 2), ("do", 0, 0), ("do", 1, 2), ("do", 1, 3), ("do", 1, 2)]
        self.assertIsNotNone(end_of_run(TIED, "views", some))
        spoiled = [{}, None, {1: lost[1]}, {2: lost[2]}, {**lost, 3: lost[2]}, {**lost, 0: lost[1]}, {**lost, 2: some},
                   {**lost, 1: some}, {**lost, 1: lost[1][:-1]}, {**lost, 2: None}, {True: lost[1], 2: lost[2]},
                   [lost[1], lost[2]], {**lost, None: lost[1]}, {**lost, 1: tuple(lost[1])}, {0: lost[1], 1: lost[2]}]
        least = {depth: outcomes_within(TIED, depth) for depth in lost}
        for depth in lost:
            spoiled += [{**lost, depth: run} for run in changed_runs(lost[depth])
                        if end_of_run(TIED, "views", run) in [None] + least[depth]]
        self.check_spoiled(evidence, "lost", spoiled, TIED)
        self.assertTrue(Deep(3, {1: lost[2], 2: lost[2]}).shows(TIED))
        evidence.lost = {2: lost[2], 1: lost[1]}
        self.check_shown(evidence, TIED)
        self.assertFalse(evidence.shows(SIGNS))
        # greater than the least, although each run is by the rule, and less
        self.assertFalse(Deep(4, {1: lost[1], 2: lost[2], 3: lost[2]}).shows(TIED))
        self.assertFalse(Deep(2, {1: lost[1]}).shows(TIED))
        self.assertFalse(Deep(1, {}).shows(TIED))
        self.assertTrue(Deep(1, {}).shows(MESSAGE))
        # a program in which nothing is got
        self.assertTrue(Deep(1, {}).shows(LONG))
        for number in (0, -1, 2, 64):
            self.assertFalse(Deep(number, {}).shows(LONG))
        one = Deep(1, {})
        one.number = True
        self.assertFalse(one.shows(MESSAGE))

    def test_equality_and_copies(self):
        run = [["do", 0, 1]]
        lost = {1: run}
        deep = Deep(2, lost)
        self.assertEqual([deep.number, deep.lost], [2, {1: [("do", 0, 1)]}])
        self.check_equality(deep, Deep(2, {1: (("do", 0, 1),)}), [
            Deep(3, lost), Deep(2, {}), Deep(2, {1: []}), Deep(2, {True: run}), Deep(2, {1: [("do", 0, True)]})])
        self.check_equality(Deep(1, {}), Deep(1, {}), [Deep(True, {})])
        run.clear()
        lost.clear()
        self.assertEqual(deep.lost, {1: [("do", 0, 1)]})
        for _ in range(2):
            evidence = judge_depth(TIED)
            self.check_shown(evidence, TIED)
            evidence.lost[1].clear()
            self.assertGreater(len(evidence.lost[2]), 0)
            evidence.lost.clear()
            outcomes_within(TIED, 2).clear()

    def test_errors(self):
        for program in BAD_PROGRAMS:
            self.assertRaises(BadProgram, outcomes_within, program, None)
            for function in (judge_depth, least_depth, Deep(1, {}).shows):
                self.assertRaises(BadProgram, function, program)
        for depth in BAD_DEPTHS:
            self.assertRaises(BadDepth, outcomes_within, SIGNS, depth)
            self.assertRaises(BadDepth, outcomes_within, HUGE, depth)

    def test_limits(self):
        for function in (judge_depth, least_depth, Deep(1, {}).shows):
            function(FULL)
            self.assertRaises(TooLarge, function, ONE_MORE["views"])
        for depth in (1, 64):
            self.assertEqual(len(outcomes_within(FULL, depth)), 1)
        self.assertRaises(TooLarge, outcomes_within, ONE_MORE["views"], 64)
        # what counts is the number of the states with the depth
        program = SIGNS + ((("get", 0, 3),) * 14,) * 2
        self.assertEqual([len(reference_states(SIGNS, "views", depth=depth)) for depth in (1, 2)], [13, 14])
        self.assertEqual(len(outcomes_within(program, 1)), 3)
        for depth in (2, 3, 64):
            self.assertRaises(TooLarge, outcomes_within, program, depth)
        for function in (judge_depth, least_depth, Deep(1, {}).shows):
            self.assertRaises(TooLarge, function, program)


if __name__ == "__main__":
    unittest.main()
