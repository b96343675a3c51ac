"""Turning points [26]."""

import random
import unittest

from memoryviews.errors import BadProgram, BadRule, BadRun, NotOver, TooLarge
from memoryviews.runs import all_outcomes, deeds_behind, outcome_of, outcomes, states_of
from memoryviews.turning import Turn, judge_turn, open_outcomes, turn_of
from tests.cases import BAD_DEEDS, BAD_PROGRAMS, BAD_RULES, BAD_RUNS, EMPTIES, EMPTY, FENCE, FULL, HUGE, LATE, LOCK, MESSAGE
from tests.cases import ONE_MORE, RULES, SIGNS
from tests.cases import EvidenceChecks, changed_runs, random_programs, spoiled_states
from tests.reference import Machine, behind, end_of_run, whole_runs

RUN = [("do", 1, None), ("do", 0, None), ("do", 1, None), ("do", 0, None)]
SMALL = random_programs(260, 25, hands=(1, 2, 2), rows=2) + [SIGNS, MESSAGE, EMPTY, EMPTIES]


def random_run(source, program, rule):
    """A whole run, at random."""
    run = []
    while deeds := deeds_behind(program, rule, run):
        run.append(source.choice(deeds))
    return run


def reached(program, rule, run):
    """The list of all states to which the state behind a run leads."""
    machine = Machine(program, rule)
    for deed in run:
        machine.do(deed)
    found, waiting = {machine.name()}, [machine]
    while waiting:
        machine = waiting.pop()
        for deed in machine.deeds():
            other = behind(machine, deed)
            if other.name() not in found:
                found.add(other.name())
                waiting.append(other)
    return sorted(found)


class TestTurning(EvidenceChecks, unittest.TestCase):

    def test_open_outcomes_against_all_whole_runs(self):
        source = random.Random(261)
        for program in SMALL:
            for rule in RULES:
                every = whole_runs(program, rule)
                run = source.choice(every)[0]
                for many in range(len(run) + 1):
                    expected = sorted({outcome for other, outcome in every if other[:many] == run[:many]})
                    self.assertEqual(open_outcomes(program, rule, run[:many]), expected)
                    self.assertEqual(open_outcomes(program, rule, tuple(run[:many])), expected)

    def test_turns_against_all_whole_runs(self):
        source = random.Random(262)
        numbers = []
        for program in SMALL:
            for rule in RULES:
                every = whole_runs(program, rule)
                for run, outcome in source.sample(every, min(3, len(every))):
                    least = min(many for many in range(len(run) + 1)
                                if {end for other, end in every if other[:many] == run[:many]} == {outcome})
                    evidence = judge_turn(program, rule, run)
                    self.check_shown(evidence, program, rule, run)
                    self.check_shown(evidence, program, rule, tuple(run))
                    self.assertEqual([evidence.number, turn_of(program, rule, run)], [least, least])
                    self.assertEqual(sorted(evidence.states), reached(program, rule, run[:least]))
                    if least == 0:
                        self.assertIs(evidence.other, None)
                    else:
                        self.assertEqual(evidence.other[:least - 1], run[:least - 1])
                        self.assertNotIn(end_of_run(program, rule, evidence.other), (None, outcome))
                    numbers.append(least)
        self.assertGreater(len({number for number in numbers}), 4)

    def test_open_outcomes_never_get_more(self):
        source = random.Random(263)
        for program in random_programs(264, 20, rows=4) + [SIGNS, MESSAGE, LOCK]:
            for rule in RULES:
                run = random_run(source, program, rule)
                rows = [open_outcomes(program, rule, run[:many]) for many in range(len(run) + 1)]
                self.assertEqual(rows[0], outcomes(program, rule))
                self.assertEqual(rows[-1], [outcome_of(program, rule, run)])
                for one, other in zip(rows, rows[1:]):
                    self.assertTrue(all(outcome in one for outcome in other))
                turn = turn_of(program, rule, run)
                self.assertTrue(all(len(row) > 1 for row in rows[:turn]))
                self.assertTrue(all(len(row) == 1 for row in rows[turn:]))

    def test_one_outcome_and_more(self):
        alone = ((("put", 0, 1), ("put", 1, 1), ("get", 0, 0)),)
        for rule in RULES:
            run = all_outcomes(alone, rule).runs[outcomes(alone, rule)[0]]
            evidence = judge_turn(alone, rule, run)
            self.assertEqual([evidence.number, evidence.other], [0, None])
            self.assertEqual(sorted(evidence.states), reached(alone, rule, []))
            self.check_shown(evidence, alone, rule, run)
            # a run that only turns at its last deed but those that wait
            program = ((FENCE, ("put", 0, 1)), (FENCE, ("put", 0, 2)))
            run = random_run(random.Random(1), program, rule)
            self.assertGreater(turn_of(program, rule, run), 0)
        last = ((("put", 0, 1),), (FENCE, FENCE, ("get", 0, 0)))
        self.assertEqual(turn_of(last, "one", [("do", 1, None)] * 3 + [("do", 0, None)]), 3)
        self.assertEqual(turn_of(last, "one", [("do", 1, None)] * 2 + [("do", 0, None), ("do", 1, None)]), 3)
        self.assertEqual(turn_of(last, "one", [("do", 0, None)] + [("do", 1, None)] * 3), 1)

    def test_the_empty_run(self):
        for rule in RULES:
            for program in (EMPTY, EMPTIES):
                for run in ([], ()):
                    evidence = judge_turn(program, rule, run)
                    self.assertEqual([evidence.number, evidence.other, evidence.states], [0, None, states_of(program, rule, [])])
                    self.check_shown(evidence, program, rule, run)
                    self.assertEqual(open_outcomes(program, rule, run), outcomes(program, rule))
            self.assertEqual(open_outcomes(SIGNS, rule, []), outcomes(SIGNS, rule))
            self.assertRaises(NotOver, judge_turn, SIGNS, rule, [])

    def test_spoiled(self):
        late = [("do", 0, None), ("do", 0, None), ("move", 0, 1), ("do", 1, None), ("do", 1, None), ("move", 0, 0)]
        self.assertEqual(outcome_of(MESSAGE, "lanes", late), LATE)
        for program, rule, run in ((MESSAGE, "one", RUN), (MESSAGE, "lanes", late),
                                   (SIGNS, "views", [("do", 0, 1), ("do", 1, 1), ("do", 0, 0), ("do", 1, 1)])):
            evidence = judge_turn(program, rule, run)
            number = evidence.number
            self.assertGreater(number, 1)
            spoiled = [0, number - 1, number + 1, -1, len(run) + 1, 100, None, True, False, str(number), (number,), [number]]
            self.check_spoiled(evidence, "number", [wrong for wrong in spoiled if wrong is True or wrong != number], program, rule, run)
            wrong = [None, run, run[:number - 1], evidence.other[:-1], tuple(evidence.other), {}, "other", 0]
            for other in changed_runs(evidence.other) + [other for other, _ in whole_runs(program, rule)[::5]]:
                outcome = end_of_run(program, rule, other)
                right = outcome not in (None, outcome_of(program, rule, run)) and other[:number - 1] == run[:number - 1]
                if not right:
                    wrong.append(other)
                else:
                    self.check_shown(Turn(number, other, evidence.states), program, rule, run)
            self.check_spoiled(evidence, "other", wrong, program, rule, run)
            every = [reached(program, rule, run[:many]) for many in (0, number - 1, number + 1, len(run))]
            wrong = spoiled_states(evidence.states) + [states for states in every if states != sorted(evidence.states)]
            self.check_spoiled(evidence, "states", wrong, program, rule, run)
            evidence.states = evidence.states[::-1]
            self.check_shown(evidence, program, rule, run)
            # with the states that are right for another number
            self.assertFalse(Turn(number + 1, run, reached(program, rule, run[:number + 1])).shows(program, rule, run))
            self.assertFalse(Turn(number - 1, run, reached(program, rule, run[:number - 1])).shows(program, rule, run))

    def test_another_run_that_begins_with_one_deed_too_few(self):
        # the other run leaves this one a deed earlier than it must
        other = [("do", 0, None), ("do", 0, None), ("do", 1, None), ("do", 1, None)]
        evidence = judge_turn(MESSAGE, "one", RUN)
        self.assertEqual([evidence.number, outcome_of(MESSAGE, "one", other) == outcome_of(MESSAGE, "one", RUN)], [2, False])
        self.assertFalse(Turn(2, other, evidence.states).shows(MESSAGE, "one", RUN))
        other = [("do", 1, None)] * 2 + [("do", 0, None)] * 2
        self.assertTrue(Turn(2, other, evidence.states).shows(MESSAGE, "one", RUN))

    def test_no_other_run_if_the_number_is_0(self):
        run = [("do", 0, None)] * 2
        program = ((("put", 0, 1), ("put", 1, 1)),)
        states = reached(program, "one", [])
        self.check_spoiled(Turn(0, None, states), "other", [run, [], (), {}, False, 0], program, "one", run)
        self.check_spoiled(Turn(0, None, states), "number", [False, 1, -1, None], program, "one", run)

    def test_equality_and_copies(self):
        other, states = [["do", 0, None]], [["a", [1]]]
        evidence, none = Turn(1, other, tuple(states)), Turn(0, None, [])
        self.assertEqual([evidence.other, evidence.states, none.other], [[("do", 0, None)], [("a", (1,))], None])
        self.check_equality(evidence, Turn(1, (("do", 0, None),), [("a", (1,))]), [
            Turn(2, other, states), Turn(True, other, states), Turn(1, [], states), Turn(1, None, states), Turn(1, other, []), none])
        self.check_equality(none, Turn(0, None, ()), [Turn(0, [], []), Turn(False, None, []), evidence])
        other.clear()
        states.clear()
        self.assertEqual([evidence.other, evidence.states], [[("do", 0, None)], [("a", (1,))]])
        run = list(RUN)
        for _ in range(2):
            evidence = judge_turn(MESSAGE, "one", run)
            self.check_shown(evidence, MESSAGE, "one", run)
            evidence.other.clear()
            evidence.states.clear()
            open_outcomes(MESSAGE, "one", run).clear()
            self.assertEqual(run, RUN)

    def test_errors(self):
        functions = (judge_turn, turn_of, Turn(0, None, []).shows)
        for function in (open_outcomes,) + functions:
            for program in BAD_PROGRAMS:
                self.assertRaises(BadProgram, function, program, None, None)
            for rule in BAD_RULES:
                self.assertRaises(BadRule, function, HUGE, rule, None)
            for rule in RULES:
                for run, index in BAD_RUNS:
                    with self.assertRaises(BadRun) as caught:
                        function(HUGE, rule, run)
                    self.assertIs(caught.exception.index, index)
                good = deeds_behind(MESSAGE, rule, [])[:1]
                for deed in BAD_DEEDS:
                    if not (deed == ("move", 0) and rule == "queues") and not (deed == ("move", 0, 0) and rule == "lanes"):
                        for run in (good + [deed], tuple(good) + (deed,), good + [deed, None]):
                            if deed != ("do", 0, None) and deed != ("do", 0, 0):
                                with self.assertRaises(BadRun) as caught:
                                    function(MESSAGE, rule, run)
                                self.assertEqual(caught.exception.index, 1)
        for function in functions:
            for rule in RULES:
                for run in ([], (), deeds_behind(SIGNS, rule, [])[:1]):
                    self.assertRaises(NotOver, function, SIGNS, rule, run)
                    self.assertRaises(NotOver, function, HUGE, rule, run[:0])
        # what still waits is not over
        waiting = [("do", 0, None)] * 2 + [("do", 1, None)] * 2 + [("move", 0)]
        self.assertRaises(NotOver, judge_turn, SIGNS, "queues", waiting)
        self.assertEqual(turn_of(SIGNS, "queues", waiting + [("move", 1)]), 4)

    def test_limit(self):
        for rule in RULES:
            whole = [("do", hand, None) for hand, rows in enumerate(FULL) for _ in rows]
            evidence = judge_turn(FULL, rule, whole)
            self.assertEqual([evidence.number, len(evidence.states)], [0, 3000])
            self.assertEqual(len(open_outcomes(FULL, rule, whole[:5])), 1)
            program = ONE_MORE[rule]
            run = []
            while deeds := deeds_behind(program, rule, run):
                run.append(deeds[-1])
            self.assertRaises(TooLarge, open_outcomes, program, rule, run)
            self.assertRaises(TooLarge, open_outcomes, program, rule, [])
            for function in (judge_turn, turn_of, Turn(0, None, []).shows):
                self.assertRaises(TooLarge, function, program, rule, run)
                self.assertRaises(NotOver, function, program, rule, run[:-1])


if __name__ == "__main__":
    unittest.main()
