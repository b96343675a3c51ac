"""Twins [23]."""

import unittest
from itertools import combinations

from memoryviews.changes import is_harmless
from memoryviews.errors import BadProgram, BadRule, BadTwins, TooLarge
from memoryviews.runs import outcomes
from memoryviews.twins import Parted, are_twins, compare
from tests.cases import BAD_PROGRAMS, BAD_RULES, EMPTIES, EMPTY, FENCE, FOUR, FULL, HUGE, MESSAGE, ONE_MORE, RULES, SIGNS
from tests.cases import EvidenceChecks, changed_runs, random_programs, with_changes
from tests.reference import end_of_run, reference_outcomes

TURNED = ((("put", 1, 1), ("put", 0, 1)), (("get", 0, 1), ("get", 1, 0)))
LATE = (((0, 0, 0), (1, 0, 0)), (1, 1, 0, 0))


class TestTwins(EvidenceChecks, unittest.TestCase):

    def check_compared(self, one, other, rule):
        """Compare two programs, and compare with the reference; returns whether they are twins."""
        both = (reference_outcomes(one, rule), reference_outcomes(other, rule))
        evidence = compare(one, other, rule)
        self.assertIs(are_twins(one, other, rule), both[0] == both[1], (one, other, rule))
        self.assertIs(evidence is None, both[0] == both[1])
        if evidence is not None:
            self.assertIsInstance(evidence, Parted)
            self.assertIn(evidence.which, (0, 1))
            self.assertIn(evidence.outcome, both[evidence.which])
            self.assertNotIn(evidence.outcome, both[1 - evidence.which])
            self.assertEqual(end_of_run((one, other)[evidence.which], rule, evidence.run), evidence.outcome)
            self.check_shown(evidence, one, other, rule)
        return evidence is None

    def test_against_reference(self):
        programs = random_programs(43, 24, hands=(2,), rows=2) + [SIGNS, MESSAGE, TURNED, SIGNS[::-1]]
        found = []
        for at, (one, other) in enumerate(combinations(programs, 2)):
            found.append(self.check_compared(one, other, RULES[at % 4]))
        for program in programs:
            for rule in RULES:
                found.append(self.check_compared(program, program, rule))
        self.assertGreater(found.count(False), 100)
        self.assertGreater(found.count(True), 100)

    def test_either_one_may_have_more(self):
        # the second one has all outcomes of the first one, and one more
        more, less = SIGNS, ((("put", 0, 1), FENCE, ("get", 0, 1)), (("put", 1, 1), FENCE, ("get", 0, 0)))
        for rule in RULES:
            self.assertIs(self.check_compared(less, more, rule), rule == "one")
            self.assertIs(self.check_compared(more, less, rule), rule == "one")
        self.assertEqual([compare(less, more, "views").which, compare(more, less, "views").which], [1, 0])
        self.assertEqual(compare(less, more, "views").outcome, compare(more, less, "views").outcome)

    def test_known_programs(self):
        self.assertEqual([self.check_compared(MESSAGE, TURNED, rule) for rule in RULES], [False, False, True, False])
        for rule in RULES:
            self.assertIs(self.check_compared(EMPTY, ((FENCE,),), rule), True)
            self.assertIs(self.check_compared(EMPTIES, ((), (FENCE,), (), ()), rule), True)
            self.assertIs(self.check_compared(EMPTY, ((("put", 3, 0),),), rule), True)
            self.assertIs(self.check_compared(EMPTY, ((("put", 3, 1),),), rule), False)
            self.assertIs(self.check_compared(((("put", 0, 1), ("put", 0, 2)),), ((("put", 0, 2),),), rule), True)
            # what a hand holds counts, and which hand
            self.assertIs(self.check_compared(((("get", 0, 0),), (("put", 0, 1),)), ((("get", 1, 0),), (("put", 0, 1),)), rule),
                          False)
            self.assertIs(self.check_compared(MESSAGE, MESSAGE[::-1], rule), False)
            # both hands can read the same here, whichever is the first one
            self.assertIs(self.check_compared(SIGNS, SIGNS[::-1], rule), True)

    def test_hands_that_are_cut_off(self):
        # a row that is never done makes no difference
        one = ((("only", 0, 1, 1), ("put", 0, 1)), (("get", 0, 0),))
        self.assertEqual([self.check_compared(one, ((), (("get", 1, 0),)), rule) for rule in RULES], [True] * 4)

    def test_harmless_changes_that_can_be_taken_back(self):
        # if both the exchange and the one back are harmless, the programs are twins
        one, other = (("put", 0, 1), ("put", 1, 2)), (("put", 1, 2), ("put", 0, 1))
        rest = (("get", 0, 1), ("get", 1, 0))
        for rule in RULES:
            both = is_harmless(rule, one[0], one[1], False) and is_harmless(rule, one[1], one[0], False)
            self.assertIs(both, rule == "lanes")
            self.assertIs(self.check_compared((one, rest), (other, rest), rule), both)

    def test_spoiled(self):
        for one, other, rule in ((MESSAGE, TURNED, "queues"), (FOUR, FOUR[:3] + (FOUR[3][:1],), "one"),
                                 (EMPTY, ((("put", 3, 1),),), "lanes")):
            evidence = compare(one, other, rule)
            outcome, which = evidence.outcome, evidence.which
            self.check_spoiled(evidence, "which", [1 - which, bool(which), None, -1, 2, str(which), (which,), [which],
                                                   10 ** 30], one, other, rule)
            wrong = [thing for thing in outcomes(one, rule) + outcomes(other, rule) if thing != outcome]
            self.check_spoiled(evidence, "outcome", wrong + with_changes(outcome) + [None, (), {}, list(outcome)],
                               one, other, rule)
            for run in changed_runs(evidence.run):
                changed = Parted(outcome, which, [])
                changed.run = run
                self.assertIs(changed.shows(one, other, rule), end_of_run((one, other)[which], rule, run) == outcome, run)
            self.assertFalse(evidence.shows(other, one, rule))
            self.assertFalse(evidence.shows(one, one, rule))
            self.assertFalse(evidence.shows(other, other, rule))
            evidence.which = 1 - which
            self.assertTrue(evidence.shows(other, one, rule))

    def test_a_run_that_is_not_whole(self):
        for run in ([], [("do", 1, None)], [("do", 0, None), ("do", 0, None)], None, [None]):
            evidence = compare(MESSAGE, TURNED, "queues")
            evidence.run = run
            self.assertFalse(evidence.shows(MESSAGE, TURNED, "queues"))
            evidence.outcome = None
            self.assertFalse(evidence.shows(MESSAGE, TURNED, "queues"))

    def test_an_outcome_of_both(self):
        run = [("do", 0, None), ("do", 0, None), ("do", 1, None), ("do", 1, None)]
        outcome = end_of_run(MESSAGE, "one", run)
        self.assertEqual(outcome, end_of_run(TURNED, "one", run))
        for which in (0, 1):
            self.assertFalse(Parted(outcome, which, run).shows(MESSAGE, TURNED, "one"))
        self.assertFalse(Parted(LATE, 0, run).shows(MESSAGE, TURNED, "one"))

    def test_equality_and_copies(self):
        outcome, run = [[[0, 0, 0], [1, 0, 0]], [1, 1, 0, 0]], [["do", 0, None]]
        evidence = Parted(outcome, 1, run)
        self.assertEqual([evidence.outcome, evidence.which, evidence.run], [LATE, 1, [("do", 0, None)]])
        self.check_equality(evidence, Parted(LATE, 1, (("do", 0, None),)), [
            Parted((), 1, run), Parted(LATE, 0, run), Parted(LATE, True, run), Parted(LATE, 1, []), Parted(LATE, 1, run * 2),
            Parted((((False, 0, 0), (1, 0, 0)), (1, 1, 0, 0)), 1, run)])
        outcome[0].clear()
        run.clear()
        self.assertEqual([evidence.outcome, evidence.which, evidence.run], [LATE, 1, [("do", 0, None)]])
        for _ in range(2):
            found = compare(MESSAGE, TURNED, "queues")
            self.check_shown(found, MESSAGE, TURNED, "queues")
            found.run.clear()

    def test_errors(self):
        for function in (compare, are_twins, Parted((), 0, []).shows):
            for program in BAD_PROGRAMS:
                self.assertRaises(BadProgram, function, program, EMPTY, None)
                self.assertRaises(BadProgram, function, EMPTY, program, None)
                self.assertRaises(BadProgram, function, program, program, "one")
            for one, other in combinations((EMPTY, SIGNS, FOUR[:3], FOUR, HUGE + EMPTY), 2):
                if len(one) != len(other):
                    for rule in ("one", None):
                        self.assertRaises(BadTwins, function, one, other, rule)
                        self.assertRaises(BadTwins, function, other, one, rule)
            for rule in BAD_RULES:
                self.assertRaises(BadRule, function, HUGE, SIGNS, rule)

    def test_limits(self):
        for rule in RULES:
            larger = ONE_MORE[rule] + ((),)
            for function in (compare, are_twins, Parted((), 0, []).shows):
                function(FULL, EMPTIES, rule)
                self.assertRaises(TooLarge, function, EMPTIES, larger, rule)
                self.assertRaises(TooLarge, function, larger, EMPTIES, rule)
                self.assertRaises(TooLarge, function, larger, larger, rule)
            self.assertIs(are_twins(EMPTIES, FULL, rule), True)


if __name__ == "__main__":
    unittest.main()
