"""What can come [8]."""

import unittest
from copy import deepcopy

from memoryviews.errors import BadRun, NotOver, TooLarge
from memoryviews.exploring import explore
from memoryviews.runs import Never, Outcomes, Seen
from memoryviews.runs import all_outcomes, deeds_behind, is_seen, judge_outcome, outcome_of, outcomes, states_of
from tests.cases import BAD_DEEDS, BAD_RUNS, EMPTIES, EMPTY, FULL, LATE, LONG, MESSAGE, ONE_MORE, RULES, SIGNS, UNSEEN
from tests.cases import EvidenceChecks, changed_runs, random_programs, spoiled_states
from tests.reference import end_of_run, reference_outcomes, reference_states


class TestRunArguments(unittest.TestCase):

    def test_no_runs(self):
        for function in (states_of, deeds_behind, outcome_of):
            for run, index in BAD_RUNS:
                with self.assertRaises(BadRun) as caught:
                    function(SIGNS, "one", run)
                self.assertIs(caught.exception.index, index)

    def test_the_first_deed_that_cannot_be_done(self):
        good = [("do", 0, None), ("do", 1, None)]
        for function in (states_of, deeds_behind, outcome_of):
            for ahead in range(3):
                for deed in BAD_DEEDS:
                    for kind in (list, tuple):
                        run = kind(good[:ahead] + [deed, ("do", 0, None), None])
                        with self.assertRaises(BadRun) as caught:
                            function(SIGNS, "one", run)
                        self.assertEqual(caught.exception.index, ahead, run)

    def test_deeds_by_other_rules(self):
        for rule, run, index in (
            ("queues", [("do", 0, None), ("move", 0, 0)], 1), ("lanes", [("do", 0, None), ("move", 0)], 1),
            ("queues", [("move", 0)], 0), ("lanes", [("do", 0, None), ("move", 0, 1)], 1),
            ("lanes", [("do", 0, None), ("move", 0, False)], 1), ("queues", [("do", 0, None), ("move", False)], 1),
            ("views", [("do", 0, None)], 0), ("views", [("do", 0, 0)], 0), ("views", [("do", 0, 2)], 0),
            ("views", [("do", 0, True)], 0), ("views", [("do", 0, 1), ("do", 0, 1)], 1),
            ("views", [("do", 0, 1), ("do", 0, False)], 1), ("one", [("do", 0, None)] * 3, 2),
        ):
            with self.assertRaises(BadRun) as caught:
                states_of(SIGNS, rule, run)
            self.assertEqual(caught.exception.index, index, (rule, run))

    def test_lists_and_tuples(self):
        run = (("do", 1, None), ("do", 0, None))
        self.assertEqual(states_of(SIGNS, "one", run), states_of(SIGNS, "one", list(run)))
        self.assertEqual(deeds_behind(SIGNS, "one", run), deeds_behind(SIGNS, "one", list(run)))
        self.assertEqual(outcome_of(SIGNS, "one", run * 2), outcome_of(SIGNS, "one", list(run) * 2))

    def test_not_over(self):
        self.assertRaises(NotOver, outcome_of, SIGNS, "one", [])
        self.assertRaises(NotOver, outcome_of, SIGNS, "one", [("do", 0, None)] * 2)
        put = ((("put", 0, 1),),)
        self.assertRaises(NotOver, outcome_of, put, "queues", [("do", 0, None)])
        self.assertRaises(NotOver, outcome_of, put, "lanes", [("do", 0, None)])
        self.assertEqual(outcome_of(put, "views", [("do", 0, 1)]), (((0, 0, 0),), (1, 0, 0, 0)))

    def test_the_states_are_as_many_as_the_deeds_and_one(self):
        for rule in RULES:
            run = judge_outcome(SIGNS, rule, (((1, 0, 0), (1, 0, 0)), (1, 1, 0, 0))).run
            states = states_of(SIGNS, rule, run)
            self.assertEqual(len(states), len(run) + 1)
            states.clear()
            self.assertEqual(len(states_of(SIGNS, rule, run)), len(run) + 1)


class TestOutcomes(EvidenceChecks, unittest.TestCase):

    def test_all_outcomes_against_reference(self):
        for program in random_programs(2, 60):
            for rule in RULES:
                self.assertEqual(outcomes(program, rule), reference_outcomes(program, rule))

    def test_outcomes_with_their_runs(self):
        for program in random_programs(3, 25) + [EMPTY, EMPTIES, LONG]:
            for rule in RULES:
                evidence = all_outcomes(program, rule)
                self.check_shown(evidence, program, rule)
                self.assertEqual(list(evidence.runs), outcomes(program, rule))
                self.assertEqual(list(evidence.runs), sorted(evidence.runs))
                for outcome, run in evidence.runs.items():
                    self.assertEqual(end_of_run(program, rule, run), outcome)
                states = reference_states(program, rule)
                self.assertEqual(set(evidence.states), set(states))
                self.assertEqual(len(evidence.states), len(states))

    def test_seen_or_never(self):
        for program, outcome in ((SIGNS, UNSEEN), (MESSAGE, LATE)):
            for rule in RULES:
                evidence = judge_outcome(program, rule, outcome)
                self.check_shown(evidence, program, rule, outcome)
                self.assertIs(is_seen(program, rule, outcome), outcome in reference_outcomes(program, rule))
                self.assertEqual(isinstance(evidence, Seen), outcome in reference_outcomes(program, rule))
                self.assertEqual(isinstance(evidence, Never), outcome not in reference_outcomes(program, rule))
        self.assertEqual([is_seen(SIGNS, rule, UNSEEN) for rule in RULES], [False, True, True, True])
        self.assertEqual([is_seen(MESSAGE, rule, LATE) for rule in RULES], [False, False, True, False])

    def test_never_both(self):
        seen = judge_outcome(SIGNS, "queues", UNSEEN)
        never = judge_outcome(SIGNS, "one", UNSEEN)
        self.assertFalse(seen.shows(SIGNS, "one", UNSEEN))
        self.assertFalse(never.shows(SIGNS, "queues", UNSEEN))
        self.assertFalse(Never(list(explore(SIGNS, "queues"))).shows(SIGNS, "queues", UNSEEN))
        other = (((1, 0, 0), (1, 0, 0)), (1, 1, 0, 0))
        self.assertFalse(seen.shows(SIGNS, "queues", other))
        self.assertFalse(never.shows(SIGNS, "one", other))
        self.assertFalse(never.shows(MESSAGE, "one", LATE))

    def test_spoiled_runs(self):
        for rule in ("queues", "lanes", "views"):
            seen = judge_outcome(SIGNS, rule, UNSEEN)
            for run in changed_runs(seen.run):
                other = Seen([])
                other.run = run
                self.assertIs(other.shows(SIGNS, rule, UNSEEN), end_of_run(SIGNS, rule, run) == UNSEEN, run)

    def test_spoiled_states(self):
        for program, outcome, rule in ((SIGNS, UNSEEN, "one"), (MESSAGE, LATE, "queues"), (MESSAGE, LATE, "views")):
            never = judge_outcome(program, rule, outcome)
            self.check_spoiled(never, "states", spoiled_states(never.states), program, rule, outcome)
            never.states.reverse()
            self.check_shown(never, program, rule, outcome)
            never.states.append(never.states[0])
            self.assertFalse(never.shows(program, rule, outcome))

    def test_spoiled_outcomes(self):
        for rule in RULES:
            evidence = all_outcomes(MESSAGE, rule)
            self.check_spoiled(evidence, "states", spoiled_states(evidence.states), MESSAGE, rule)
            runs = evidence.runs
            first, last = list(runs)[0], list(runs)[-1]
            less = {outcome: runs[outcome] for outcome in runs if outcome != last}
            swapped = dict(runs)
            swapped[first], swapped[last] = runs[last], runs[first]
            strange = {**less, (last[0], (1, True, 0, 0)): runs[last]}
            more = {**runs, (((3, 3, 3), (3, 3, 3)), (3, 3, 3, 3)): runs[last]}
            spoiled = [less, swapped, strange, more, {}, None, list(runs), {**runs, first: runs[first][:-1]},
                       {**runs, first: tuple(runs[first])}, {**runs, first: None}, {**runs, 1: []}]
            self.check_spoiled(evidence, "runs", spoiled, MESSAGE, rule)
            evidence.runs = {outcome: runs[outcome] for outcome in reversed(list(runs))}
            self.check_shown(evidence, MESSAGE, rule)

    def test_equality(self):
        run = [("do", 0, None)]
        state = ((0, (0, 0, 0)),), (0, 0, 0, 0), None
        outcome = (((0, 0, 0),), (0, 0, 0, 0))
        self.check_equality(Seen(run), Seen(list(run)), [Seen([]), Seen([("do", 1, None)]), Seen([("do", False, None)]),
                                                         Never(run)])
        self.check_equality(Never([state]), Never([state]), [Never([]), Never([state, state]), Seen([state])])
        self.check_equality(Outcomes({outcome: run}, [state]), Outcomes({outcome: list(run)}, (state,)), [
            Outcomes({}, [state]), Outcomes({outcome: run}, []), Outcomes({outcome: []}, [state]), Seen(run)])

    def test_booleans_are_no_integers(self):
        self.assertNotEqual(Never([(True,)]), Never([(1,)]))
        self.assertNotEqual(Never([(0,)]), Never([(False,)]))
        self.assertNotEqual(Never([(True,)]), Never([(False,)]))
        self.assertEqual(Never([(True, 1)]), Never([(True, 1)]))
        self.assertNotEqual(Outcomes({1: []}, []), Outcomes({True: []}, []))
        self.assertNotEqual(Outcomes({1: []}, []), Outcomes({2: []}, []))

    def test_attributes_of_no_kind(self):
        self.assertIs(Seen(None).shows(SIGNS, "queues", UNSEEN), False)
        self.assertIs(Never(None).shows(SIGNS, "one", UNSEEN), False)

    def test_lists_and_tuples(self):
        run = [["do", 0, None], ["do", 1, None]]
        self.assertEqual(Seen(run).run, [("do", 0, None), ("do", 1, None)])
        self.assertEqual(Seen(tuple(tuple(deed) for deed in run)), Seen(run))
        state = [[[0, [0, 0, 0]]], [0, 0, 0, 0], [[[0, 1]]]]
        self.assertEqual(Never((state,)).states, [(((0, (0, 0, 0)),), (0, 0, 0, 0), (((0, 1),),))])
        outcome = (((0, 0, 0),), (0, 0, 0, 0))
        evidence = Outcomes({outcome: run}, [state])
        self.assertEqual(evidence.runs, {outcome: [("do", 0, None), ("do", 1, None)]})
        self.assertEqual(evidence.states, [(((0, (0, 0, 0)),), (0, 0, 0, 0), (((0, 1),),))])

    def test_what_is_handed_in_is_copied(self):
        run = [("do", 0, None)]
        outcome = (((0, 0, 0),), (0, 0, 0, 0))
        runs, states = {outcome: run}, [("a", "b", None)]
        seen, never, evidence = Seen(run), Never(states), Outcomes(runs, states)
        run.append(1)
        states.append(2)
        runs[1] = []
        self.assertEqual([seen.run, never.states], [[("do", 0, None)], [("a", "b", None)]])
        self.assertEqual([evidence.runs, evidence.states], [{outcome: [("do", 0, None)]}, [("a", "b", None)]])

    def test_what_is_returned_is_new(self):
        for _ in range(2):
            evidence = all_outcomes(SIGNS, "queues")
            self.check_shown(evidence, SIGNS, "queues")
            for run in evidence.runs.values():
                run.clear()
            evidence.states.clear()
            seen = judge_outcome(SIGNS, "queues", UNSEEN)
            self.check_shown(seen, SIGNS, "queues", UNSEEN)
            seen.run.clear()
            found = outcomes(SIGNS, "queues")
            self.assertEqual(len(found), 4)
            found.clear()


class TestLimits(unittest.TestCase):

    def test_just_3000_states(self):
        for rule in RULES:
            self.assertEqual(len(explore(FULL, rule)), 3000)
            self.assertEqual(len(all_outcomes(FULL, rule).states), 3000)
            self.assertIs(all_outcomes(FULL, rule).shows(FULL, rule), True)
            none = (((0, 0, 0),) * 4, (0, 0, 0, 1))
            self.assertEqual(len(judge_outcome(FULL, rule, none).states), 3000)

    def test_one_more(self):
        for rule in RULES:
            program = ONE_MORE[rule]
            outcome = (((0, 0, 0),) * 3, (1, 0, 0, 0))
            fewer = (program[0][:-1],) + program[1:] if rule in ("one", "views") else (program[0][1:],) + program[1:]
            self.assertTrue(is_seen(fewer, rule, outcome))
            for function, arguments in (
                (judge_outcome, (outcome,)), (is_seen, (outcome,)), (all_outcomes, ()), (outcomes, ()),
                (Seen([]).shows, (outcome,)), (Never([]).shows, (outcome,)), (Outcomes({}, []).shows, ()),
            ):
                before = deepcopy(arguments)
                self.assertRaises(TooLarge, function, program, rule, *arguments)
                self.assertEqual(before, arguments)


if __name__ == "__main__":
    unittest.main()
