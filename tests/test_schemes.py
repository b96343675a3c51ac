"""Schemes of fences [12]."""

import unittest

from memoryviews.errors import BadProgram, BadRule, BadScheme
from memoryviews.programs import is_program
from memoryviews.runs import outcome_of, outcomes
from memoryviews.schemes import Against, Enough, is_enough, judge_scheme, schemes_for, with_scheme
from tests.cases import ANYTHING, BAD_PROGRAMS, BAD_RULES, EMPTIES, FENCE, MESSAGE, RULES, SIGNS
from tests.cases import EvidenceChecks, changed_runs, random_programs, with_changes
from tests.reference import end_of_run, reference_outcomes

SCHEMES = ("puts", "gets", "both", "all", "aheads", "behinds", "most")
ENOUGH = {
    "one": SCHEMES, "queues": ("puts", "gets", "both", "all"), "lanes": ("puts", "both", "all"), "views": ("all",),
}
PUT, GIVE, GET, SWAP = ("put", 0, 1), ("give", 1, 2), ("get", 0, 2), ("swap", 1, 3, 2)
BAD_SCHEMES = ANYTHING + ["Puts", "put", "puts ", "every", ["puts"], ("puts",), SCHEMES]


def short_programs(seed, many):
    """Programs without more than two hands, so that few states come about."""
    return random_programs(seed, many, hands=(1, 2, 2, 2), rows=4)


class TestFences(unittest.TestCase):

    def test_each_scheme(self):
        hand = (PUT, GIVE, GET, SWAP, FENCE)
        expected = {
            "puts": (PUT, FENCE, GIVE, FENCE, GET, SWAP, FENCE),
            "gets": (PUT, GIVE, FENCE, GET, SWAP, FENCE),
            "both": (PUT, FENCE, GIVE, FENCE, FENCE, GET, SWAP, FENCE),
            "all": (PUT, FENCE, GIVE, FENCE, GET, FENCE, SWAP, FENCE, FENCE),
            "aheads": (FENCE, PUT, FENCE, GIVE, GET, SWAP, FENCE),
            "behinds": (PUT, GIVE, GET, FENCE, FENCE, SWAP, FENCE, FENCE),
            "most": (FENCE, PUT, FENCE, GIVE, GET, FENCE, FENCE, SWAP, FENCE, FENCE),
        }
        for scheme, rows in expected.items():
            self.assertEqual(with_scheme((hand, ()), scheme), (rows, ()), scheme)

    def test_an_only_grows(self):
        only = ("only", 0, 1, 2)
        hand = (only, SWAP, GET, PUT)
        longer = {"puts": 2, "gets": 3, "both": 3, "all": 4, "aheads": 2, "behinds": 5, "most": 5}
        for scheme, many in longer.items():
            rows = with_scheme((hand,), scheme)[0]
            self.assertEqual(rows[0], ("only", 0, 1, many), scheme)
            self.assertTrue(is_program((rows,)))
            # what stands behind the rows left out is the last put, with its own fence ahead of it, if there is one
            self.assertEqual(rows[1 + many:][:1], (FENCE,) if scheme in ("aheads", "most") else (PUT,))

    def test_an_only_that_leaves_out_the_last_row(self):
        hand = (("only", 2, 3, 1), ("swap", 0, 0, 1))
        self.assertEqual(with_scheme((hand,), "most"), ((("only", 2, 3, 3), FENCE, ("swap", 0, 0, 1), FENCE),))

    def test_onlys_within_onlys(self):
        hand = (("only", 0, 0, 3), PUT, ("only", 1, 0, 1), PUT, PUT)
        self.assertEqual(with_scheme((hand,), "puts"), ((
            ("only", 0, 0, 5), PUT, FENCE, ("only", 1, 0, 2), PUT, FENCE, PUT, FENCE),))

    def test_no_fences(self):
        for scheme in SCHEMES:
            self.assertEqual(with_scheme(EMPTIES, scheme), EMPTIES)
            self.assertEqual(with_scheme(((FENCE,),), scheme), ((FENCE,),))

    def test_the_longest(self):
        program = ((SWAP,) * 5,) * 4
        self.assertEqual(len(with_scheme(program, "most")[3]), 15)

    def test_errors(self):
        for scheme in SCHEMES[:1] + (None,):
            for program in BAD_PROGRAMS + [((FENCE,) * 6,), ((), (FENCE,) * 16)]:
                self.assertRaises(BadProgram, with_scheme, program, scheme)
        for scheme in BAD_SCHEMES:
            self.assertRaises(BadScheme, with_scheme, SIGNS, scheme)


class TestEnough(EvidenceChecks, unittest.TestCase):

    def test_which_are_enough(self):
        for rule in RULES:
            self.assertEqual(schemes_for(rule), list(ENOUGH[rule]))
            for scheme in SCHEMES:
                self.assertIs(is_enough(scheme, rule), scheme in ENOUGH[rule])
                evidence = judge_scheme(scheme, rule)
                self.assertIsInstance(evidence, Enough if scheme in ENOUGH[rule] else Against)
                self.check_shown(evidence, scheme, rule)

    def test_what_is_enough_is(self):
        for program in short_programs(15, 25) + [SIGNS, MESSAGE]:
            for rule in RULES:
                for scheme in ENOUGH[rule]:
                    self.assertEqual(outcomes(with_scheme(program, scheme), rule), outcomes(program, "one"),
                                     (program, rule, scheme))

    def test_what_is_against(self):
        for rule in RULES:
            for scheme in SCHEMES:
                if scheme not in ENOUGH[rule]:
                    evidence = judge_scheme(scheme, rule)
                    self.assertTrue(all(len(hand) <= 5 for hand in evidence.program))
                    outcome = outcome_of(with_scheme(evidence.program, scheme), rule, evidence.run)
                    self.assertNotIn(outcome, reference_outcomes(evidence.program, "one"))

    def test_spoiled(self):
        for scheme, rule in (("aheads", "queues"), ("gets", "lanes"), ("most", "views"), ("both", "views")):
            evidence = judge_scheme(scheme, rule)
            program = evidence.program
            by_one = reference_outcomes(program, "one")
            for run in changed_runs(evidence.run):
                other = Against(program, [])
                other.run = run
                outcome = end_of_run(with_scheme(program, scheme), rule, run)
                self.assertIs(other.shows(scheme, rule), outcome is not None and outcome not in by_one, run)
            spoiled = [thing for thing in with_changes(program) + BAD_PROGRAMS if not is_program(thing)]
            spoiled += [program + ((FENCE,),), program[:1], program[1:], program + ((),) * 4, ((FENCE,) * 6,) + program[1:]]
            self.check_spoiled(evidence, "program", spoiled, scheme, rule)

    def test_a_run_that_comes_by_one_too(self):
        run = [("do", 0, None)] * 2 + [("move", 0)] + [("do", 1, None)] * 2 + [("move", 1)]
        fenced = [("do", 0, None)] * 3 + [("move", 0)] + [("do", 1, None)] * 3 + [("move", 1)]
        self.assertIsNotNone(end_of_run(SIGNS, "queues", run))
        self.assertIsNotNone(end_of_run(with_scheme(SIGNS, "aheads"), "queues", fenced))
        self.assertFalse(Against(SIGNS, fenced).shows("aheads", "queues"))
        self.assertFalse(Against(SIGNS, run).shows("aheads", "queues"))
        self.assertFalse(Against(SIGNS, judge_scheme("aheads", "queues").run).shows("aheads", "one"))
        self.assertFalse(Enough().shows("aheads", "queues"))
        self.assertTrue(Enough().shows("aheads", "one"))

    def test_too_many_states_by_one(self):
        # the signs, beside hands that do so much that too many states come about
        crowd = (tuple(("get", at % 3, 3) for at in range(5)), tuple(("put", 3, at % 4) for at in range(5)))
        program = (SIGNS[0] + (("put", 2, 1), ("put", 2, 2)), SIGNS[1] + (("get", 1, 2), ("get", 2, 2))) + crowd
        run = [("do", 0, None)] * 3 + [("do", 1, None)] * 3
        rest = [("move", 0), ("move", 1)]
        small = judge_scheme("aheads", "queues")
        self.assertTrue(small.shows("aheads", "queues"))
        # fence, put, get; then the fence of each later put waits for the queue
        run += rest + [("do", 0, None), ("do", 0, None), ("move", 0), ("do", 0, None), ("do", 0, None), ("move", 0)]
        run += [("do", 1, None)] * 2 + [("do", 2, None)] * 5
        for _ in range(5):
            run += [("do", 3, None), ("do", 3, None), ("move", 3)]
        self.assertIsNotNone(end_of_run(with_scheme(program, "aheads"), "queues", run))
        self.assertFalse(Against(program, run).shows("aheads", "queues"))

    def test_equality_and_copies(self):
        program, run = [[["put", 0, 1]], []], [["do", 0, None]]
        evidence = Against(program, run)
        self.assertEqual([evidence.program, evidence.run], [((("put", 0, 1),), ()), [("do", 0, None)]])
        self.check_equality(evidence, Against(((("put", 0, 1),), ()), (("do", 0, None),)), [
            Against(SIGNS, run), Against(program, []), Against([[["put", False, 1]], []], run), Enough()])
        program.clear()
        run.clear()
        self.assertEqual([evidence.program, evidence.run], [((("put", 0, 1),), ()), [("do", 0, None)]])
        self.check_equality(Enough(), Enough(), [evidence])
        self.assertEqual(Enough().__dict__, {})
        judge_scheme("gets", "views").run.clear()
        self.check_shown(judge_scheme("gets", "views"), "gets", "views")

    def test_errors(self):
        for function in (judge_scheme, is_enough, Enough().shows, Against((), []).shows):
            for scheme in BAD_SCHEMES:
                self.assertRaises(BadScheme, function, scheme, None)
                self.assertRaises(BadScheme, function, scheme, "one")
            for rule in BAD_RULES:
                self.assertRaises(BadRule, function, "puts", rule)
        for rule in BAD_RULES:
            self.assertRaises(BadRule, schemes_for, rule)
        schemes_for("one").clear()
        self.assertEqual(schemes_for("one"), list(SCHEMES))


if __name__ == "__main__":
    unittest.main()
