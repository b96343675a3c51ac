"""Knowing [25]."""

import unittest

from memoryviews.errors import BadHand, BadProgram, BadRule, BadStand, TooLarge
from memoryviews.knowing import Known, NoStand, judge_knowing, least_rows, stands_of
from memoryviews.rules import always_within
from tests.cases import ANYTHING, BAD_PROGRAMS, BAD_RULES, EMPTIES, EMPTY, EVERY, FENCE, FOUR, FULL, HUGE, LOCK, MESSAGE
from tests.cases import ONE_MORE, RULES, SIGNS
from tests.cases import EvidenceChecks, changed_runs, random_programs, spoiled_states
from tests.reference import reference_states, replayed

NONE = (0, 0, 0)
# not the number of a hand of two
BAD_HANDS = [thing for thing in ANYTHING if type(thing) is not int] + [2, -1, 10 ** 30, "0", (0,), [0]]
# none of them is a stand of a hand with two rows
BAD_STANDS = ANYTHING + [
    (0,), (0, NONE, 0), [0, NONE], (3, NONE), (-1, NONE), (None, NONE), (True, NONE), (False, NONE), ("0", NONE), (0, list(NONE)),
    (0, (0, 0)), (0, (0, 0, 0, 0)), (0, (0, 0, 4)), (0, (-1, 0, 0)), (0, (0, True, 0)), (0, (False, 0, 0)), (0, (0, None, 0)),
    (0, None), (0, 0), ((0,), NONE), (0, (0, 0, "0")), (NONE, 0), (0, [NONE]), {0: NONE}, (0, ()),
]


def reference_rows(states, hand, stand):
    """How far each hand has come at least where a hand stands so, None if it never does."""
    fitting = [stands for stands, _, _ in states if stands[hand] == stand]
    return tuple(min(column) for column in zip(*[[at for at, _ in stands] for stands in fitting])) or None


class TestKnowing(EvidenceChecks, unittest.TestCase):

    def check_judged(self, program, rule, hand, stand, states):
        """Compare what a hand knows with all states of the second machine."""
        expected = reference_rows(states, hand, stand)
        evidence = judge_knowing(program, rule, hand, stand)
        self.check_shown(evidence, program, rule, hand, stand)
        self.assertEqual(least_rows(program, rule, hand, stand), expected)
        if expected is None:
            self.assertIsInstance(evidence, NoStand)
            self.assertEqual(sorted(evidence.states), sorted(states))
        else:
            self.assertIsInstance(evidence, Known)
            self.assertEqual(evidence.rows, expected)
            self.assertEqual(evidence.rows[hand], stand[0])
            self.assertIsInstance(evidence.runs, tuple)
            for other, run in enumerate(evidence.runs):
                name = replayed(program, rule, run).name()
                self.assertEqual([name[0][hand], name[0][other][0]], [stand, expected[other]])

    def test_against_reference(self):
        for program in random_programs(250, 25) + [SIGNS, MESSAGE, LOCK, EMPTIES, EMPTY]:
            for rule in RULES:
                states = list(reference_states(program, rule))
                for hand in range(len(program)):
                    stands = sorted({state[0][hand] for state in states})
                    self.assertEqual(stands_of(program, rule, hand), stands)
                    others = [(at, held) for at, held in ((0, (1, 0, 0)), (len(program[hand]), (0, 0, 1)), (0, NONE))]
                    for stand in (stands if len(stands) < 9 else stands[:4] + stands[-4:]) + others:
                        self.check_judged(program, rule, hand, stand, states)

    def test_all_rows_done(self):
        for rule in RULES:
            self.assertEqual(least_rows(SIGNS, rule, 0, (2, NONE)), (2, 0))
            self.assertEqual(least_rows(MESSAGE, rule, 0, (2, NONE)), (2, 0))
            self.assertEqual(least_rows(MESSAGE, rule, 1, (2, (1, 1, 0))), (2, 2))

    def test_by_one_rule_and_not_by_another(self):
        stand = (2, (1, 0, 0))
        self.assertEqual([least_rows(MESSAGE, rule, 1, stand) for rule in RULES], [None, None, (2, 2), None])
        # both see nothing
        program = (SIGNS[0], SIGNS[1] + (("put", 2, 1),), (("get", 0, 2), ("get", 1, 0), ("get", 2, 1)))
        self.assertEqual([least_rows(program, rule, 2, (0, NONE)) for rule in RULES], [(0, 0, 0)] * 4)
        self.assertEqual([least_rows(SIGNS, rule, 0, (2, (1, 0, 0))) for rule in RULES], [(2, 1)] * 4)
        seen = ((("put", 0, 1), ("get", 0, 1)), (("put", 1, 1), ("get", 0, 0), ("only", 0, 0, 1), ("get", 1, 0)))
        self.assertEqual([least_rows(seen, rule, 1, (4, (0, 0, 0))) for rule in RULES], [(0, 4)] * 4)

    def test_never_more_by_a_wider_rule(self):
        more = 0
        # by one, what was read at the second place cannot be of the first hand, if nothing is read at the first place
        either = MESSAGE + ((("put", 1, 1),),)
        stand = (2, (1, 0, 0))
        self.assertEqual([least_rows(either, rule, 1, stand) for rule in RULES], [(0, 2, 1), (0, 2, 1), (0, 2, 0), (0, 2, 1)])
        for program in random_programs(251, 40, rows=3) + [SIGNS, MESSAGE, FOUR, LOCK, EVERY, either]:
            for hand in range(len(program)):
                stands = {rule: stands_of(program, rule, hand) for rule in RULES}
                for one in RULES:
                    for other in RULES:
                        if one != other and always_within(one, other):
                            for stand in stands[one][-6:]:
                                self.assertIn(stand, stands[other])
                                known = least_rows(program, one, hand, stand)
                                wider = least_rows(program, other, hand, stand)
                                self.assertTrue(all(a >= b for a, b in zip(known, wider)))
                                more += known != wider
        self.assertGreater(more, 0)

    def test_hands_without_rows_and_with_16(self):
        for rule in RULES:
            self.assertEqual(stands_of(EMPTIES, rule, 3), [(0, NONE)])
            evidence = judge_knowing(EMPTIES, rule, 2, (0, NONE))
            self.assertEqual([evidence.rows, evidence.runs], [(0, 0, 0, 0), ([], [], [], [])])
            self.check_shown(evidence, EMPTIES, rule, 2, (0, NONE))
            long = ((FENCE,) * 16, (), (FENCE,))
            self.assertEqual(stands_of(long, rule, 0), [(at, NONE) for at in range(17)])
            for at in (0, 15, 16):
                self.assertEqual(least_rows(long, rule, 0, (at, NONE)), (at, 0, 0))
            self.assertRaises(BadStand, least_rows, long, rule, 0, (17, NONE))
            self.assertRaises(BadStand, least_rows, long, rule, 1, (1, NONE))
            self.assertEqual(least_rows(long, rule, 1, (0, NONE)), (0, 0, 0))

    def test_spoiled_known(self):
        for program, rule, hand, stand in ((MESSAGE, "one", 1, (1, (1, 0, 0))), (MESSAGE, "lanes", 1, (2, (1, 0, 0))),
                                           (SIGNS, "views", 0, (2, (1, 0, 0)))):
            evidence = judge_knowing(program, rule, hand, stand)
            rows, runs = evidence.rows, evidence.runs
            spoiled = [None, 0, {}, (), list(rows), rows[:1], rows + (0,), rows[::-1] if rows[0] != rows[1] else (),
                       (rows[0], True), (rows[0], None), (rows[0], str(rows[1])), ((rows[0],), rows[1])]
            spoiled += [(rows[0] + by, rows[1]) for by in (-1, 1)] + [(rows[0], rows[1] + by) for by in (-1, 1)]
            self.check_spoiled(evidence, "rows", spoiled, program, rule, hand, stand)
            spoiled = [None, 0, {}, (), list(runs), runs[:1], runs + ([],), runs + runs, (None,) * 2, (runs[0], None)]
            for other in (0, 1):
                for run in changed_runs(runs[other]) + [runs[1 - other], []]:
                    machine = replayed(program, rule, run)
                    name = machine.name() if machine else None
                    changed = runs[:other] + (run,) + runs[other + 1:]
                    if name is None or name[0][hand] != stand or name[0][other][0] != rows[other]:
                        spoiled.append(changed)
                    else:
                        self.check_shown(Known(rows, changed), program, rule, hand, stand)
            self.check_spoiled(evidence, "runs", spoiled, program, rule, hand, stand)
            self.assertFalse(evidence.shows(program, rule, hand, (0, NONE)))
        self.assertFalse(judge_knowing(MESSAGE, "lanes", 1, (2, (1, 0, 0))).shows(MESSAGE, "queues", 1, (2, (1, 0, 0))))

    def test_runs_to_where_a_hand_has_come_farther(self):
        there, farther = [("do", 1, None)], [("do", 1, None), ("do", 1, None)]
        stand = (0, NONE)
        self.check_shown(Known((0, 0), ([], [])), SIGNS, "one", 0, stand)
        # for the hand itself, any run to where it stands so will do
        self.check_shown(Known((0, 0), (there, [])), SIGNS, "one", 0, stand)
        for run in (there, farther):
            self.assertFalse(Known((0, 0), ([], run)).shows(SIGNS, "one", 0, stand))
        self.assertFalse(Known((0, 0), ([("do", 0, None)], [])).shows(SIGNS, "one", 0, stand))
        self.assertFalse(Known((0, 0), ([], [("do", 0, None)])).shows(SIGNS, "one", 0, stand))
        for rows in ((0, 1), (0, 2), (1, 0)):
            self.assertFalse(Known(rows, ([], there)).shows(SIGNS, "one", 0, stand))
            self.assertFalse(Known(rows, ([], farther)).shows(SIGNS, "one", 0, stand))

    def test_spoiled_no_stand(self):
        stand = (2, (1, 0, 0))
        evidence = judge_knowing(MESSAGE, "views", 1, stand)
        self.check_spoiled(evidence, "states", spoiled_states(evidence.states), MESSAGE, "views", 1, stand)
        self.assertFalse(evidence.shows(MESSAGE, "lanes", 1, stand))
        self.assertFalse(evidence.shows(MESSAGE, "views", 1, (2, (1, 1, 0))))
        self.assertFalse(evidence.shows(SIGNS, "views", 1, (2, (3, 0, 0))))
        evidence.states = evidence.states[::-1]
        self.check_shown(evidence, MESSAGE, "views", 1, stand)
        # the states of lanes, in some of which the hand stands so
        every = list(reference_states(MESSAGE, "lanes"))
        self.assertFalse(NoStand(every).shows(MESSAGE, "lanes", 1, stand))
        self.assertTrue(NoStand(every).shows(MESSAGE, "lanes", 1, (2, (2, 0, 0))))
        self.assertFalse(Known((2, 2), ([], [])).shows(MESSAGE, "views", 1, stand))
        self.assertFalse(Known((), ()).shows(MESSAGE, "views", 1, stand))

    def test_equality_and_copies(self):
        rows, run, states = [0, 1], [["do", 1, None]], [["a", [1]]]
        known, none = Known(rows, [run, []]), NoStand(tuple(states))
        self.assertEqual([known.rows, known.runs, none.states], [(0, 1), ([("do", 1, None)], []), [("a", (1,))]])
        self.check_equality(known, Known((0, 1), ((("do", 1, None),), ())), [
            Known((0, True), [run, []]), Known((False, 1), [run, []]), Known((0,), [run, []]), Known(rows, [run]),
            Known(rows, [[], run]), Known(rows, [run, run]), none])
        self.check_equality(none, NoStand([("a", (1,))]), [NoStand([]), NoStand([("a", (True,))]), known])
        rows.clear()
        run.clear()
        states.clear()
        self.assertEqual([known.rows, known.runs, none.states], [(0, 1), ([("do", 1, None)], []), [("a", (1,))]])
        for _ in range(2):
            evidence = judge_knowing(MESSAGE, "one", 1, (1, (1, 0, 0)))
            self.check_shown(evidence, MESSAGE, "one", 1, (1, (1, 0, 0)))
            self.assertIsNot(evidence.runs[0], evidence.runs[1])
            evidence.runs[0].clear()
            self.assertEqual(len(evidence.runs[1]), 3)
            evidence.runs[1].clear()
            judge_knowing(MESSAGE, "one", 1, (2, (1, 0, 0))).states.clear()
            stands_of(MESSAGE, "one", 1).clear()
            self.assertEqual(len(stands_of(MESSAGE, "one", 1)), 6)

    def test_errors(self):
        functions = (judge_knowing, least_rows, Known((), ()).shows, NoStand([]).shows)
        for program in BAD_PROGRAMS:
            self.assertRaises(BadProgram, stands_of, program, None, None)
            for function in functions:
                self.assertRaises(BadProgram, function, program, None, None, None)
        for rule in BAD_RULES:
            self.assertRaises(BadRule, stands_of, HUGE, rule, None)
            for function in functions:
                self.assertRaises(BadRule, function, HUGE, rule, None, None)
        for hand in BAD_HANDS:
            self.assertRaises(BadHand, stands_of, HUGE, "views", hand)
            for function in functions:
                self.assertRaises(BadHand, function, HUGE, "one", hand, None)
        for stand in BAD_STANDS:
            for function in functions:
                for hand in (0, 1):
                    self.assertRaises(BadStand, function, MESSAGE, "lanes", hand, stand)
        for function in functions:
            self.assertRaises(BadStand, function, HUGE, "lanes", 1, (9, NONE))
            self.assertRaises(TooLarge, function, HUGE, "lanes", 1, (8, NONE))

    def test_limit(self):
        for rule in RULES:
            self.assertEqual(len(stands_of(FULL, rule, 0)), 15)
            self.assertEqual(least_rows(FULL, rule, 1, (3, NONE)), (0, 3, 0, 0))
            self.assertEqual(len(judge_knowing(FULL, rule, 1, (3, (1, 0, 0))).states), 3000)
            self.assertRaises(TooLarge, stands_of, ONE_MORE[rule], rule, 0)
            for function in (judge_knowing, least_rows, Known((), ()).shows, NoStand([]).shows):
                for stand in ((0, NONE), (0, (1, 1, 1))):
                    self.assertRaises(TooLarge, function, ONE_MORE[rule], rule, 0, stand)


if __name__ == "__main__":
    unittest.main()
