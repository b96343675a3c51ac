"""Runs with as few switches as possible [13]."""

import unittest

from memoryviews.errors import BadOutcome, BadProgram, BadRule, TooLarge
from memoryviews.runs import Never
from memoryviews.switches import Calmest, fewest_switches, judge_switches
from tests.cases import BAD_OUTCOMES, BAD_PROGRAMS, BAD_RULES, EMPTIES, FULL, HUGE, LATE, MESSAGE, ONE_MORE, RULES, SIGNS
from tests.cases import UNSEEN, EvidenceChecks, changed_runs, random_programs
from tests.reference import behind, end_of_run, reference_outcomes, reference_states, whole_runs

NO = ((0, 0, 0),)
ZERO = (0, 0, 0, 0)


def switches(run):
    return sum(1 for at in range(1, len(run)) if run[at][1] != run[at - 1][1])


class TestSwitches(EvidenceChecks, unittest.TestCase):

    def test_against_all_runs(self):
        for program in random_programs(16, 14, rows=2) + [SIGNS, MESSAGE]:
            for rule in RULES:
                least = {}
                for run, outcome in whole_runs(program, rule):
                    least[outcome] = min(switches(run), least.get(outcome, 99))
                for outcome, number in least.items():
                    evidence = judge_switches(program, rule, outcome)
                    self.assertIsInstance(evidence, Calmest)
                    self.assertEqual([evidence.number, switches(evidence.run)], [number, number])
                    self.assertEqual(end_of_run(program, rule, evidence.run), outcome)
                    self.check_shown(evidence, program, rule, outcome)
                    self.assertEqual(fewest_switches(program, rule, outcome), number)

    def test_floors(self):
        for rule in RULES:
            outcome = reference_outcomes(SIGNS, rule)[0]
            evidence = judge_switches(SIGNS, rule, outcome)
            machines = reference_states(SIGNS, rule)
            self.assertEqual(set(state for state, _ in evidence.floors), set(machines))
            first = next(iter(machines))
            self.assertEqual(evidence.floors[(first, None)], evidence.number)
            self.assertEqual([hand for state, hand in evidence.floors if state == first], [None])
            for state, hand in evidence.floors:
                if machines[state].over() and machines[state].outcome() == outcome:
                    self.assertEqual(evidence.floors[(state, hand)], 0)

    def test_never(self):
        evidence = judge_switches(MESSAGE, "queues", LATE)
        self.assertIsInstance(evidence, Never)
        self.check_shown(evidence, MESSAGE, "queues", LATE)
        self.assertIs(fewest_switches(MESSAGE, "queues", LATE), None)
        self.assertEqual(fewest_switches(MESSAGE, "lanes", LATE), 2)

    def test_no_deeds(self):
        outcome = (NO * 4, ZERO)
        for rule in RULES:
            evidence = judge_switches(EMPTIES, rule, outcome)
            self.assertEqual([evidence.run, evidence.number, list(evidence.floors.values())], [[], 0, [0]])
            self.check_shown(evidence, EMPTIES, rule, outcome)

    def test_spoiled_runs(self):
        for rule in ("queues", "views"):
            evidence = judge_switches(SIGNS, rule, UNSEEN)
            for run in changed_runs(evidence.run):
                other = Calmest([], evidence.number, evidence.floors)
                other.run = run
                right = end_of_run(SIGNS, rule, run) == UNSEEN and switches(run) == evidence.number
                self.assertIs(other.shows(SIGNS, rule, UNSEEN), right, run)

    def test_spoiled_numbers(self):
        evidence = judge_switches(MESSAGE, "lanes", LATE)
        self.check_spoiled(evidence, "number", [0, 1, 3, -2, None, True, "2", (2,)], MESSAGE, "lanes", LATE)
        # a run with more switches than needed
        calm = judge_switches(SIGNS, "queues", UNSEEN)
        wild = [("do", 0, None), ("do", 1, None), ("do", 0, None), ("do", 1, None), ("move", 0), ("move", 1)]
        self.assertEqual(end_of_run(SIGNS, "queues", wild), UNSEEN)
        self.assertFalse(Calmest(wild, calm.number, calm.floors).shows(SIGNS, "queues", UNSEEN))
        self.assertFalse(Calmest(wild, 5, calm.floors).shows(SIGNS, "queues", UNSEEN))
        first = list(calm.floors)[0]
        self.assertEqual(first[1], None)
        self.assertFalse(Calmest(wild, 5, {**calm.floors, first: 5}).shows(SIGNS, "queues", UNSEEN))

    def test_spoiled_floors(self):
        for rule in ("queues", "views"):
            evidence = judge_switches(SIGNS, rule, UNSEEN)
            floors = evidence.floors
            pairs = list(floors)
            over = [pair for pair in pairs if pair[0][0] == ((2, (0, 0, 0)), (2, (0, 0, 0))) and floors[pair] == 0]
            spoiled = [{}, None, pairs, {pair: 0 for pair in pairs}, {**floors, 1: 1}, {**floors, (pairs[0][0], 0): 1},
                       {pair: floors[pair] for pair in pairs[:-1]}, {pair: floors[pair] for pair in pairs[1:]},
                       {**floors, pairs[0]: evidence.number + 1}, {**floors, pairs[0]: evidence.number - 1},
                       {**floors, pairs[0]: None}, {**floors, pairs[3]: -1}, {**floors, pairs[3]: False},
                       {**floors, over[0]: 1}, {**floors, pairs[3]: 99}]
            strange = {pair: floors[pair] for pair in pairs if pair != pairs[3]}
            strange[(pairs[3][0], bool(pairs[3][1]))] = floors[pairs[3]]
            spoiled.append(strange)
            self.check_spoiled(evidence, "floors", spoiled, SIGNS, rule, UNSEEN)
            evidence.floors = {pair: floors[pair] for pair in reversed(pairs)}
            self.check_shown(evidence, SIGNS, rule, UNSEEN)

    def test_other_floors_show_too(self):
        # what is lower than needed is right, if it fits: here behind a state that is over with another outcome
        evidence = judge_switches(SIGNS, "queues", UNSEEN)
        ends = [pair for pair in evidence.floors
                if pair[0][0][0][0] == 2 and pair[0][0][1][0] == 2 and pair[0][0] != ((2, (0, 0, 0)), (2, (0, 0, 0)))
                and pair[0][2] == ((), ())]
        self.assertTrue(ends)
        for pair in ends:
            evidence.floors[pair] = 50
        self.check_shown(evidence, SIGNS, "queues", UNSEEN)

    def test_floors_from_the_front(self):
        # as many switches as there are at the least, less those that lead to a pair: these floors fit, too
        for rule in RULES:
            for outcome in reference_outcomes(SIGNS, rule):
                evidence = judge_switches(SIGNS, rule, outcome)
                machines = reference_states(SIGNS, rule)
                first = next(iter(machines))
                least = {(first, None): 0}
                waiting = [(first, None)]
                while waiting:
                    state, hand = waiting.pop()
                    for deed in machines[state].deeds():
                        pair = (behind(machines[state], deed).name(), deed[1])
                        number = least[(state, hand)] + (hand is not None and hand != deed[1])
                        if number < least.get(pair, 99):
                            least[pair] = number
                            waiting.append(pair)
                floors = {pair: evidence.number - least[pair] for pair in least}
                for state, hand in floors:
                    if machines[state].over() and machines[state].outcome() == outcome:
                        floors[(state, hand)] = 0
                high = {pair: max(0, floors[pair]) for pair in floors}
                self.assertIs(Calmest(evidence.run, evidence.number, high).shows(SIGNS, rule, outcome), True)
                negative = min(floors.values()) < 0
                self.assertIs(Calmest(evidence.run, evidence.number, floors).shows(SIGNS, rule, outcome), not negative)
                self.assertTrue(negative or evidence.number > 1)

    def test_a_number_that_is_a_boolean(self):
        evidence = judge_switches(EMPTIES, "one", (NO * 4, ZERO))
        self.check_spoiled(evidence, "number", [False, None, 1, -1], EMPTIES, "one", (NO * 4, ZERO))
        self.check_spoiled(evidence, "floors", [{pair: False for pair in evidence.floors}], EMPTIES, "one", (NO * 4, ZERO))

    def test_equality_and_copies(self):
        run, floors = [["do", 0, None]], {(("a",), None): 1}
        evidence = Calmest(run, 0, floors)
        self.assertEqual([evidence.run, evidence.number, evidence.floors], [[("do", 0, None)], 0, floors])
        self.check_equality(evidence, Calmest((("do", 0, None),), 0, dict(floors)), [
            Calmest([], 0, floors), Calmest(run, 1, floors), Calmest(run, False, floors), Calmest(run, 0, {}),
            Calmest(run, 0, {(("a",), None): True}), Never(run)])
        run.clear()
        floors.clear()
        self.assertEqual([evidence.run, evidence.floors], [[("do", 0, None)], {(("a",), None): 1}])
        again = judge_switches(SIGNS, "lanes", UNSEEN)
        again.run.clear()
        again.floors.clear()
        self.check_shown(judge_switches(SIGNS, "lanes", UNSEEN), SIGNS, "lanes", UNSEEN)

    def test_errors(self):
        for function in (judge_switches, fewest_switches, Calmest([], 0, {}).shows):
            for program in BAD_PROGRAMS:
                self.assertRaises(BadProgram, function, program, None, None)
            for rule in BAD_RULES:
                self.assertRaises(BadRule, function, HUGE, rule, None)
            for outcome in BAD_OUTCOMES:
                self.assertRaises(BadOutcome, function, HUGE, "one", outcome)
            for rule in RULES:
                self.assertRaises(TooLarge, function, ONE_MORE[rule], rule, (NO * 3, (1, 0, 0, 0)))
        for rule in RULES:
            self.assertEqual(fewest_switches(FULL, rule, (NO * 4, ZERO)), 3)


if __name__ == "__main__":
    unittest.main()
