"""Programs kept [29]."""

import unittest

from memoryviews.compiling import Kept, Leaked, is_kept, judge_keeping, keeping_schemes
from memoryviews.errors import BadRule, BadScheme, TooLarge
from memoryviews.programs import is_program
from memoryviews.rules import always_within
from memoryviews.runs import deeds_behind, outcomes
from memoryviews.schemes import with_scheme
from memoryviews.texts import read_program
from tests.cases import ANYTHING, BAD_PROGRAMS, BAD_RULES, FENCE, FOUR, FULL, LOCK, MESSAGE, ONE_MORE, RULES, SIGNS
from tests.cases import EvidenceChecks, changed_runs, random_programs, with_changes
from tests.reference import end_of_run, reference_outcomes, reference_states

SCHEMES = ("puts", "gets", "both", "all", "aheads", "behinds", "most")
KEEPING = {
    ("queues", "one"): ("puts", "gets", "both", "all"),
    ("lanes", "one"): ("puts", "both", "all"),
    ("lanes", "queues"): ("puts", "both", "all", "aheads", "most"),
    ("lanes", "views"): ("puts", "both", "all", "aheads", "most"),
    ("views", "one"): ("all",),
    ("views", "queues"): ("all", "most"),
    ("views", "lanes"): ("all", "behinds", "most"),
}
# the signs with more rows and hands: just 3000 states by one, and one more
TEXT_3000 = """put 0 = 1; r0 = get 1; r1 = get 2; fence
put 1 = 1; r0 = get 0; r1 = get 0; r1 = get 2
r1 = get 3; r1 = get 0; fence; put 3 = 2
r1 = get 2; r1 = get 0; r2 = get 1
"""
TEXT_3001 = """put 0 = 1; r0 = get 1; r1 = get 2
put 1 = 1; r0 = get 0; r2 = get 1; fence
r1 = get 0; r2 = get 1; put 3 = 2; r1 = get 3
put 2 = 1; r2 = get 1; fence
"""
PAIRS = [(rule, goal) for rule in RULES for goal in RULES]
BAD_SCHEMES = ANYTHING + ["Puts", "put", "puts ", "every", ["puts"], ("puts",), SCHEMES]
LEAKS = [(scheme, rule, goal) for scheme in SCHEMES for rule, goal in PAIRS if scheme not in KEEPING.get((rule, goal), SCHEMES)]


class TestCompiling(EvidenceChecks, unittest.TestCase):

    def test_which_are_kept(self):
        for rule, goal in PAIRS:
            kept = KEEPING.get((rule, goal), SCHEMES)
            self.assertEqual(keeping_schemes(rule, goal), list(kept))
            self.assertIs(always_within(rule, goal), (rule, goal) not in KEEPING)
            for scheme in SCHEMES:
                self.assertIs(is_kept(scheme, rule, goal), scheme in kept)
                evidence = judge_keeping(scheme, rule, goal)
                self.assertIsInstance(evidence, Kept if scheme in kept else Leaked)
                self.check_shown(evidence, scheme, rule, goal)
        self.assertEqual(len(LEAKS), 26)

    def test_what_is_kept_is(self):
        many = 0
        for program in random_programs(290, 25, hands=(2, 2, 3), rows=3) + [SIGNS, MESSAGE, LOCK]:
            known = {goal: outcomes(program, goal) for goal in RULES}
            for rule, goal in PAIRS:
                for scheme in KEEPING.get((rule, goal), SCHEMES[::3]):
                    try:
                        new = outcomes(with_scheme(program, scheme), rule)
                    except TooLarge:
                        continue
                    self.assertTrue(set(new) <= set(known[goal]), (program, scheme, rule, goal))
                    many += len(new) < len(known[goal])
        self.assertGreater(many, 0)

    def test_what_is_leaked(self):
        for scheme, rule, goal in LEAKS:
            evidence = judge_keeping(scheme, rule, goal)
            self.assertTrue(all(len(hand) <= 5 for hand in evidence.program))
            outcome = end_of_run(with_scheme(evidence.program, scheme), rule, evidence.run)
            self.assertIsNotNone(outcome)
            self.assertNotIn(outcome, reference_outcomes(evidence.program, goal))
            # what the goal does not have, each rule within it does not have either
            for other in RULES:
                if always_within(other, goal):
                    self.check_shown(evidence, scheme, rule, other)
                if always_within(rule, other):
                    self.assertFalse(evidence.shows(scheme, rule, other))

    def test_kept_and_leaked_are_not_both(self):
        for scheme in SCHEMES:
            for rule, goal in PAIRS:
                self.assertIs(Kept().shows(scheme, rule, goal), (scheme, rule, goal) not in LEAKS)
                for other in LEAKS[::6]:
                    leaked = judge_keeping(*other)
                    outcome = end_of_run(with_scheme(leaked.program, scheme), rule, leaked.run)
                    right = outcome is not None and outcome not in outcomes(leaked.program, goal)
                    self.assertIs(leaked.shows(scheme, rule, goal), right)
                    self.assertFalse(right and (scheme, rule, goal) not in LEAKS)

    def test_spoiled(self):
        for scheme, rule, goal in LEAKS[::4]:
            evidence = judge_keeping(scheme, rule, goal)
            program = evidence.program
            known = reference_outcomes(program, goal)
            for run in changed_runs(evidence.run):
                other = Leaked(program, [])
                other.run = run
                outcome = end_of_run(with_scheme(program, scheme), rule, run)
                self.assertIs(other.shows(scheme, rule, goal), outcome is not None and outcome not in known, run)
            spoiled = [thing for thing in with_changes(program) + BAD_PROGRAMS if not is_program(thing)]
            spoiled += [program + ((FENCE,),), program[:1], program[1:], program + ((),) * 4, ((FENCE,) * 6,) + program[1:]]
            self.check_spoiled(evidence, "program", spoiled, scheme, rule, goal)

    def test_a_run_that_comes_by_the_goal_too(self):
        run = [("do", 0, None)] * 2 + [("move", 0)] + [("do", 1, None)] * 2 + [("move", 1)]
        # a fence ahead of each put
        fenced = [("do", 0, None)] * 3 + [("move", 0)] + [("do", 1, None)] * 3 + [("move", 1)]
        self.assertIsNotNone(end_of_run(with_scheme(SIGNS, "aheads"), "queues", fenced))
        for program, other in ((SIGNS, fenced), (SIGNS, run), (MESSAGE, fenced)):
            self.assertFalse(Leaked(program, other).shows("aheads", "queues", "one"))
        unseen = [("do", 0, None)] * 3 + [("do", 1, None)] * 3 + [("move", 0), ("move", 1)]
        self.assertTrue(Leaked(SIGNS, unseen).shows("aheads", "queues", "one"))
        self.assertFalse(Leaked(SIGNS, unseen).shows("aheads", "queues", "queues"))
        self.assertFalse(Leaked(SIGNS, unseen).shows("aheads", "queues", "views"))
        self.assertFalse(Leaked(SIGNS, unseen).shows("puts", "queues", "one"))

    def test_too_many_states_by_the_goal(self):
        for text, many in ((TEXT_3000, 3000), (TEXT_3001, 3001)):
            program = read_program(text)
            self.assertEqual(len(reference_states(program, "one")), many)
            fenced = with_scheme(program, "aheads")
            # fence, put and get of both hands; then what waits is moved before anything else is done
            run = [("do", 0, None)] * 3 + [("do", 1, None)] * 3
            while deeds := deeds_behind(fenced, "queues", run):
                run.append(([deed for deed in deeds if deed[0] == "move"] + deeds)[0])
            self.assertNotIn(end_of_run(fenced, "queues", run), [None] + reference_outcomes(program, "one"))
            self.assertIs(Leaked(program, run).shows("aheads", "queues", "one"), many == 3000)
        self.assertFalse(Leaked(FULL, []).shows("aheads", "queues", "one"))
        self.assertFalse(Leaked(ONE_MORE["one"], []).shows("aheads", "queues", "one"))

    def test_equality_and_copies(self):
        program, run = [[["put", 0, 1]], []], [["do", 0, None]]
        evidence = Leaked(program, run)
        self.assertEqual([evidence.program, evidence.run], [((("put", 0, 1),), ()), [("do", 0, None)]])
        self.check_equality(evidence, Leaked(((("put", 0, 1),), ()), (("do", 0, None),)), [
            Leaked(SIGNS, run), Leaked(program, []), Leaked([[["put", False, 1]], []], run), Kept()])
        program.clear()
        run.clear()
        self.assertEqual([evidence.program, evidence.run], [((("put", 0, 1),), ()), [("do", 0, None)]])
        self.check_equality(Kept(), Kept(), [evidence])
        self.assertEqual(Kept().__dict__, {})
        for _ in range(2):
            evidence = judge_keeping("gets", "lanes", "queues")
            self.check_shown(evidence, "gets", "lanes", "queues")
            evidence.run.clear()
            keeping_schemes("lanes", "queues").clear()
        self.assertEqual(keeping_schemes("one", "one"), list(SCHEMES))

    def test_errors(self):
        for function in (judge_keeping, is_kept, Kept().shows, Leaked((), []).shows):
            for scheme in BAD_SCHEMES:
                self.assertRaises(BadScheme, function, scheme, None, None)
                self.assertRaises(BadScheme, function, scheme, "one", "one")
            for rule in BAD_RULES:
                self.assertRaises(BadRule, function, "puts", rule, None)
                self.assertRaises(BadRule, function, "puts", rule, "one")
                self.assertRaises(BadRule, function, "puts", "one", rule)
        for rule in BAD_RULES:
            self.assertRaises(BadRule, keeping_schemes, rule, None)
            self.assertRaises(BadRule, keeping_schemes, "views", rule)


if __name__ == "__main__":
    unittest.main()
