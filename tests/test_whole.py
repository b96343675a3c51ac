"""What the document says of one part in terms of another one."""

import unittest
from itertools import combinations

from memoryviews.attacks import is_calm
from memoryviews.chances import chances
from memoryviews.compiling import is_kept, keeping_schemes
from memoryviews.depths import judge_depth, outcomes_within
from memoryviews.desks import Desk
from memoryviews.errors import TooLarge
from memoryviews.knowing import judge_knowing, least_rows, stands_of
from memoryviews.lines import is_as_by_one
from memoryviews.logs import is_let, log_of
from memoryviews.merging import merged
from memoryviews.parrying import Parried, parry
from memoryviews.partings import is_whole
from memoryviews.races import is_raceless
from memoryviews.runs import is_seen, outcomes, states_of
from memoryviews.schemes import is_enough, schemes_for, with_scheme
from memoryviews.sections import locked, serial_outcome
from memoryviews.sparing import Kept, keeping, spare
from memoryviews.switches import fewest_switches, judge_switches
from memoryviews.telling import outcomes_told
from memoryviews.texts import program_text, read_program
from memoryviews.turning import judge_turn, open_outcomes
from memoryviews.twins import are_twins
from memoryviews.fencing import with_fences
from tests.cases import FOUR, LOCK, MESSAGE, RULES, SIGNS, random_programs
from tests.plain import BARE, FENCE, PLAIN, plain_programs

SCHEMES = ("puts", "gets", "both", "all", "aheads", "behinds", "most")


class TestWhole(unittest.TestCase):

    def test_schemes_that_are_enough_keep_one(self):
        for rule in RULES:
            self.assertEqual(keeping_schemes(rule, "one"), schemes_for(rule))
            for scheme in SCHEMES:
                self.assertIs(is_kept(scheme, rule, "one"), is_enough(scheme, rule))

    def test_what_is_calm_or_whole_has_the_outcomes_by_one(self):
        many = 0
        for program in plain_programs(360, 80, PLAIN) + plain_programs(361, 40, BARE, rows=(1, 4)) + [SIGNS, MESSAGE, FOUR]:
            by_one = outcomes(program, "one")
            for rule in RULES[1:]:
                if rule == "views" and any(row[0] == "swap" for hand in program for row in hand):
                    continue
                if is_whole(program) if rule == "views" else is_calm(program, rule):
                    self.assertEqual(outcomes(program, rule), by_one)
                    self.assertEqual(list(chances(program, rule)), by_one)
                    many += 1
        self.assertGreater(many, 100)

    def test_the_fences_of_a_parried_and_of_a_kept(self):
        for program in plain_programs(362, 25, ("put", "get"), hands=(2,), places=(2,)) + [SIGNS, MESSAGE]:
            prices = {(0, 1): 1, (1, 1): 2, (0, len(program[0])): 1}
            for rule in RULES[1:]:
                evidence = parry(program, rule, prices)
                if isinstance(evidence, Parried):
                    fenced = with_fences(program, evidence.choice)
                    self.assertTrue(is_as_by_one(fenced, rule))
                    kept = spare(fenced, rule)
                    self.assertIsInstance(kept, Kept)
                    # no choice that costs less is enough, so all of these fences are needed
                    self.assertEqual(keeping(fenced, kept.fences), fenced)
                    self.assertTrue(are_twins(program, keeping(fenced, kept.fences), "one"))

    def test_a_fence_behind_each_row_is_enough_for_all_rings(self):
        for program in plain_programs(363, 60, PLAIN, rows=(1, 5)):
            fenced = with_scheme(program, "all")
            for rule in RULES[1:3]:
                self.assertTrue(is_calm(fenced, rule))
        for program in plain_programs(364, 40, BARE, rows=(1, 4)):
            self.assertTrue(is_whole(with_scheme(program, "all")))

    def test_programs_without_races(self):
        apart = ((("put", 0, 1), ("get", 0, 0)), (("put", 1, 2), ("get", 0, 1)), (("get", 0, 2), ("get", 1, 2)))
        self.assertTrue(is_raceless(apart))
        for rule in RULES[1:3]:
            self.assertTrue(is_calm(apart, rule))
        self.assertTrue(is_whole(apart))

    def test_evidence_runs_are_runs_with_logs(self):
        for program in random_programs(365, 12) + [SIGNS, MESSAGE, LOCK]:
            for rule in RULES:
                for outcome in outcomes(program, rule)[:3]:
                    calmest = judge_switches(program, rule, outcome)
                    turn = judge_turn(program, rule, calmest.run)
                    self.assertTrue(is_let(log_of(program, rule, calmest.run), rule))
                    self.assertEqual(open_outcomes(program, rule, calmest.run[:turn.number]), [outcome])
                    if turn.other is not None:
                        self.assertTrue(is_let(log_of(program, rule, turn.other), rule))
                    # the stands along the run, and what is known there
                    for state in states_of(program, rule, calmest.run):
                        for hand, stand in enumerate(state[0]):
                            rows = least_rows(program, rule, hand, stand)
                            self.assertTrue(all(at <= there for at, (there, _) in zip(rows, state[0])))

    def test_what_is_known_on_a_desk(self):
        desk = Desk(MESSAGE, "lanes")
        for deed in judge_knowing(MESSAGE, "lanes", 1, (1, (1, 0, 0))).runs[0]:
            desk.do(deed)
        self.assertEqual(desk.state()[0][1], (1, (1, 0, 0)))
        self.assertIn(desk.state()[0][1], stands_of(MESSAGE, "lanes", 1))

    def test_sections_told_by_stories_and_as_texts(self):
        program = ((("put", 0, 1),), (("get", 0, 0),))
        for has_fences in (False, True):
            both = locked(program, has_fences)
            self.assertEqual(read_program(program_text(both)), both)
            serial = sorted({serial_outcome(program, hands) for hands in ((0,), (1,), (0, 1), (1, 0))})
            for rule in RULES:
                for outcome in serial:
                    self.assertIs(is_seen(both, rule, outcome), True)
                try:
                    self.assertEqual(outcomes_told(both, rule), outcomes(both, rule))
                except TooLarge:
                    self.assertTrue(has_fences)

    def test_depths_and_merged_programs(self):
        for program in random_programs(366, 20) + [SIGNS, FOUR]:
            deep = judge_depth(program)
            self.assertEqual(outcomes_within(program, deep.number), outcomes(program, "views"))
            for run in deep.lost.values():
                self.assertTrue(is_let(log_of(program, "views", run), "views"))
        # hands of fences alone can be merged, in any order, and nothing else comes
        program = SIGNS[:1] + ((FENCE,),) * 3
        for one, other in combinations(range(1, 4), 2):
            for rule in RULES:
                self.assertEqual(len(outcomes(merged(program, one, other), rule)), 1)
                self.assertEqual(fewest_switches(merged(program, one, other), rule, outcomes(
                    merged(program, one, other), rule)[0]), 2)


if __name__ == "__main__":
    unittest.main()
