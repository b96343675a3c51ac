"""Rules within rules [9]."""

import unittest

from memoryviews.errors import BadOutcome, BadProgram, BadRule, TooLarge
from memoryviews.rules import Beyond, Within, always_within, is_within, judge_within, rules_with
from memoryviews.runs import outcomes
from tests.cases import BAD_OUTCOMES, BAD_PROGRAMS, BAD_RULES, EMPTIES, EMPTY, EVERY, FENCE, FOUR, FULL, HUGE, LATE, LOCK
from tests.cases import MESSAGE, ONE_MORE, RULES, SIGNS, UNSEEN
from tests.cases import EvidenceChecks, changed_runs, random_programs, spoiled_states
from tests.reference import end_of_run, reference_outcomes

ALWAYS = [(one, other) for one in RULES for other in RULES if one == other] + [
    ("one", "queues"), ("one", "lanes"), ("one", "views"), ("queues", "lanes"), ("queues", "views")]
MANY = [SIGNS, MESSAGE, LOCK, EVERY, EMPTY, EMPTIES, FOUR] + random_programs(4, 40)


def without_places(program):
    """The program with all its places 0."""
    at = {"put": 1, "give": 1, "get": 2, "swap": 2}
    return tuple(tuple(row if row[0] not in at else row[:at[row[0]]] + (0,) + row[at[row[0]] + 1:] for row in hand)
                 for hand in program)


def with_fences(program):
    """The program with a fence directly behind each row that is no fence."""
    hands = []
    for hand in program:
        rows = []
        for row in hand:
            if row[0] == "only":
                row = row[:3] + (row[3] * 2 + 1,)
            rows += [row] if row == FENCE else [row, FENCE]
        hands.append(rows)
    return tuple(tuple(rows[:16]) for rows in hands)


class TestRules(EvidenceChecks, unittest.TestCase):

    def test_always_within(self):
        for one in RULES:
            for other in RULES:
                self.assertIs(always_within(one, other), (one, other) in ALWAYS, (one, other))

    def test_what_is_always_within_is(self):
        for program in MANY:
            for one, other in ALWAYS:
                self.assertIs(is_within(program, one, other), True, (program, one, other))

    def test_the_others_are_not_always(self):
        for one in RULES:
            for other in RULES:
                if (one, other) not in ALWAYS:
                    self.assertTrue(any(not is_within(program, one, other) for program in (SIGNS, MESSAGE, FOUR)))

    def test_judging_against_reference(self):
        for program in [SIGNS, MESSAGE, EMPTY] + random_programs(5, 20):
            comes = {rule: reference_outcomes(program, rule) for rule in RULES}
            for one in RULES:
                for other in RULES:
                    evidence = judge_within(program, one, other)
                    within = all(outcome in comes[other] for outcome in comes[one])
                    self.assertIs(isinstance(evidence, Within), within)
                    self.assertIs(isinstance(evidence, Beyond), not within)
                    self.assertIs(is_within(program, one, other), within)
                    self.check_shown(evidence, program, one, other)
                    if within:
                        self.assertEqual(list(evidence.runs), comes[one])
                        for outcome, run in evidence.runs.items():
                            self.assertEqual(end_of_run(program, other, run), outcome)

    def test_one_hand(self):
        for program in random_programs(6, 40, hands=(1,), rows=6, places=3):
            self.assertEqual(len(outcomes(program, "one")), 1)
            for rule in RULES:
                self.assertEqual(outcomes(program, rule), outcomes(program, "one"))

    def test_one_place(self):
        for program in random_programs(7, 40):
            program = without_places(program)
            for rule in RULES:
                self.assertEqual(outcomes(program, rule), outcomes(program, "one"), (program, rule))

    def test_a_fence_behind_each_row(self):
        for program in random_programs(8, 25, rows=2) + [SIGNS, MESSAGE]:
            program = with_fences(program)
            for rule in RULES:
                self.assertEqual(outcomes(program, rule), outcomes(program, "one"), (program, rule))

    def test_hands_with_places_of_their_own(self):
        one = (("put", 0, 1), ("get", 0, 1), ("give", 1, 0))
        other = (("put", 2, 3), ("swap", 1, 2, 1), ("get", 0, 3))
        for rule in RULES:
            alone = [outcomes((hand,), rule)[0] for hand in (one, other)]
            both = ((alone[0][0][0], alone[1][0][0]), alone[0][1][:2] + alone[1][1][2:])
            self.assertEqual(outcomes((one, other), rule), [both])

    def test_rules_with(self):
        self.assertEqual(rules_with(SIGNS, UNSEEN), ["queues", "lanes", "views"])
        self.assertEqual(rules_with(MESSAGE, LATE), ["lanes"])
        read = (((0, 0, 0), (0, 0, 0), (1, 0, 0), (1, 0, 0)), (1, 1, 0, 0))
        self.assertEqual(rules_with(FOUR, read), ["views"])
        self.assertEqual(rules_with(EMPTIES, (((0, 0, 0),) * 4, (0, 0, 0, 0))), list(RULES))
        self.assertEqual(rules_with(SIGNS, (((3, 0, 0), (0, 0, 0)), (1, 1, 0, 0))), [])

    def test_spoiled(self):
        within = judge_within(MESSAGE, "queues", "lanes")
        runs = within.runs
        first, last = list(runs)[0], list(runs)[-1]
        spoiled = [{}, None, {first: runs[first]}, {**runs, LATE: runs[last]}, {**runs, first: runs[last]},
                   {**runs, first: runs[first][:-1]}, {**runs, first: None}, {**runs, 5: []}]
        self.check_spoiled(within, "runs", spoiled, MESSAGE, "queues", "lanes")
        self.assertFalse(within.shows(MESSAGE, "lanes", "lanes"))
        beyond = judge_within(MESSAGE, "lanes", "queues")
        self.check_spoiled(beyond, "states", spoiled_states(beyond.states), MESSAGE, "lanes", "queues")
        for run in changed_runs(beyond.run):
            other = Beyond([], beyond.states)
            other.run = run
            self.assertIs(other.shows(MESSAGE, "lanes", "queues"), end_of_run(MESSAGE, "lanes", run) == LATE, run)
        self.assertFalse(beyond.shows(MESSAGE, "lanes", "lanes"))
        # the states are right, but the run has an outcome that comes by the other rule, too
        self.assertFalse(Beyond(runs[first], beyond.states).shows(MESSAGE, "lanes", "queues"))
        self.assertTrue(Beyond(beyond.run, beyond.states).shows(MESSAGE, "lanes", "queues"))
        self.assertFalse(beyond.shows(MESSAGE, "lanes", "views"))

    def test_equality_and_copies(self):
        run, outcome = [["do", 0, None]], (((0, 0, 0),), (0, 0, 0, 0))
        runs, states = {outcome: run}, [["a", []]]
        within, beyond = Within(runs), Beyond(tuple(run), tuple(states))
        self.assertEqual([within.runs, beyond.run, beyond.states],
                         [{outcome: [("do", 0, None)]}, [("do", 0, None)], [("a", ())]])
        self.check_equality(within, Within({outcome: [("do", 0, None)]}), [Within({}), Within({outcome: []}), beyond])
        self.check_equality(beyond, Beyond([("do", 0, None)], [("a", ())]), [
            Beyond([], states), Beyond(run, []), Beyond(run, states * 2), within])
        run.clear()
        runs.clear()
        states.clear()
        self.assertEqual([within.runs, beyond.run, beyond.states],
                         [{outcome: [("do", 0, None)]}, [("do", 0, None)], [("a", ())]])

    def test_errors(self):
        for program in BAD_PROGRAMS:
            self.assertRaises(BadProgram, judge_within, program, "one", None)
            self.assertRaises(BadProgram, is_within, program, None, "one")
            self.assertRaises(BadProgram, rules_with, program, None)
        for rule in BAD_RULES:
            for function in (judge_within, is_within, Within({}).shows, Beyond([], []).shows):
                self.assertRaises(BadRule, function, HUGE, rule, "one")
                self.assertRaises(BadRule, function, HUGE, "one", rule)
            self.assertRaises(BadRule, always_within, rule, "one")
            self.assertRaises(BadRule, always_within, "one", rule)
        for outcome in BAD_OUTCOMES:
            self.assertRaises(BadOutcome, rules_with, HUGE, outcome)

    def test_too_large_for_one_of_the_rules(self):
        program = ONE_MORE["queues"]
        for one, other in (("one", "queues"), ("queues", "one"), ("lanes", "lanes")):
            for function in (judge_within, is_within, Within({}).shows, Beyond([], []).shows):
                self.assertRaises(TooLarge, function, program, one, other)
        self.assertTrue(is_within(program, "one", "one"))
        self.assertTrue(is_within(program, "one", "views"))
        self.assertRaises(TooLarge, rules_with, program, (((0, 0, 0),) * 3, (1, 0, 0, 0)))
        self.assertEqual(rules_with(FULL, (((0, 0, 0),) * 4, (0, 0, 0, 0))), list(RULES))


if __name__ == "__main__":
    unittest.main()
