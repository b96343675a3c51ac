"""Logs [14]."""

import unittest

from memoryviews.errors import BadLog, BadProgram, BadRule, BadRun, TooLarge
from memoryviews.logs import Let, Unlet, is_let, judge_log, log_of, program_of, rules_for
from memoryviews.runs import outcome_of
from tests.cases import ANYTHING, BAD_PROGRAMS, BAD_RULES, EVERY, FENCE, HUGE, RULES, SIGNS
from tests.cases import EvidenceChecks, changed_runs, random_programs, spoiled_states
from tests.reference import Machine, behind, end_of_run, replayed, whole_runs

FOUR_LOG = (
    (("put", 0, 1),), (("put", 1, 1),),
    (("got", 0, 1), ("got", 1, 0)), (("got", 1, 1), ("got", 0, 0)),
)
SIGNS_LOG = ((("put", 0, 1), ("got", 1, 0)), (("put", 1, 1), ("got", 0, 0)))
LATE_LOG = ((("put", 0, 1), ("put", 1, 1)), (("got", 1, 1), ("got", 0, 0)))
BAD_ACTS = [
    None, True, 0, "fence", b"fence", [], (), ["fence"], ("fence", 0), ("get", 0, 0), ("give", 0, 0), ("swap", 0, 0, 0),
    ("only", 0, 0, 1), ("put", 0), ("put", 0, 0, 0), ("put", 4, 0), ("put", 0, 4), ("put", -1, 0), ("put", True, 0),
    ("put", 0, True), ["put", 0, 0], ("got", 0), ("got", 0, 0, 0), ("got", 4, 0), ("got", 0, 4), ("got", False, 0),
    ("got", 0, False), ("got", None, 0), ("swapped", 0, 0), ("swapped", 0, 0, 0, 0), ("swapped", 4, 0, 0),
    ("swapped", 0, 4, 0), ("swapped", 0, 0, 4), ("swapped", True, 0, 0), ("swapped", 0, True, 0),
    ("swapped", 0, 0, True), (b"put", 0, 0), (["put"], 0, 0), (("put",), 0, 0),
]
BAD_LOGS = ANYTHING + [
    [()], [[]], (None,), ([],), ((), []), ((), (), (), (), ()), ((FENCE,) * 17,), (FENCE,), ({},), (0,), ("fence",),
] + [((FENCE, act),) for act in BAD_ACTS] + [((), (act, FENCE)) for act in BAD_ACTS]


def agreeing_states(log, rule):
    """A dict from the states to which deeds lead that agree, to machines of the reference."""
    first = Machine(program_of(log), rule)
    found = {first.name(): first}
    waiting = [first]
    while waiting:
        machine = waiting.pop()
        for deed in machine.deeds():
            other = behind(machine, deed)
            if deed[0] == "do":
                act = log[deed[1]][machine.at[deed[1]]]
                if act[0] in ("got", "swapped") and other.held[deed[1]][0] != act[2]:
                    continue
            if other.name() not in found:
                found[other.name()] = other
                waiting.append(other)
    return found


def padded(ahead, behind_it, act):
    return (("got", 3, 0),) * ahead + (act,) + (("got", 3, 0),) * behind_it


def random_logs(seed, many):
    """Logs of runs, and such in which one thing that was got is another one."""
    found = []
    for at, program in enumerate(random_programs(seed, many, hands=(1, 2, 2, 3), rows=2)):
        runs = whole_runs(program, RULES[at % 4])
        log = log_of(program, RULES[at % 4], runs[len(runs) // 2][0])
        found.append(log)
        changed = [[("got", act[1], (act[2] + 1) % 4) if act[0] == "got" else act for act in hand] for hand in log]
        found.append(tuple(tuple(hand) for hand in changed))
    return found


class TestLogs(EvidenceChecks, unittest.TestCase):

    def test_programs_of_logs(self):
        log = ((("put", 1, 2), ("got", 3, 1), ("swapped", 0, 1, 2), FENCE), ())
        self.assertEqual(program_of(log), ((("put", 1, 2), ("get", 0, 3), ("swap", 0, 0, 2), FENCE), ()))
        self.assertEqual(program_of(((FENCE,) * 16,) * 4), ((FENCE,) * 16,) * 4)

    def test_rules_for(self):
        self.assertEqual(rules_for(FOUR_LOG), ["views"])
        self.assertEqual(rules_for(SIGNS_LOG), ["queues", "lanes", "views"])
        self.assertEqual(rules_for(LATE_LOG), ["lanes"])
        self.assertEqual(rules_for(((), ())), list(RULES))
        self.assertEqual(rules_for(((("got", 0, 1),),)), [])
        self.assertEqual(rules_for(((("swapped", 0, 0, 1),), (("swapped", 0, 0, 2),))), [])
        self.assertEqual(rules_for(((("swapped", 0, 0, 1),), (("swapped", 0, 1, 2),))), list(RULES))

    def test_against_reference(self):
        for log in random_logs(17, 30) + [SIGNS_LOG, LATE_LOG, FOUR_LOG]:
            for rule in RULES:
                machines = agreeing_states(log, rule)
                let = any(machine.over() for machine in machines.values())
                evidence = judge_log(log, rule)
                self.assertIs(isinstance(evidence, Let), let)
                self.assertIs(isinstance(evidence, Unlet), not let)
                self.assertIs(is_let(log, rule), let)
                self.check_shown(evidence, log, rule)
                if let:
                    self.assertEqual(log_of(program_of(log), rule, evidence.run), log)
                else:
                    self.assertEqual(set(evidence.states), set(machines))
                    self.assertEqual(len(evidence.states), len(machines))

    def test_what_is_always_within_lets_too(self):
        for log in random_logs(18, 40):
            lets = rules_for(log)
            for one, other in (("one", "queues"), ("queues", "lanes"), ("queues", "views")):
                self.assertTrue(one not in lets or other in lets)

    def test_log_of(self):
        run = [("do", 0, None)] * 6 + [("do", 2, None)] * 2
        self.assertEqual(log_of(EVERY, "one", run), (
            (("put", 3, 2), ("got", 3, 2), ("put", 1, 2), ("swapped", 1, 2, 3), FENCE), (),
            (("swapped", 1, 3, 1), ("got", 2, 0))))
        self.assertEqual(log_of(EVERY, "one", []), ((), (), ()))
        self.assertEqual(log_of(EVERY, "one", tuple(run)), log_of(EVERY, "one", run))
        queued = [("do", 0, None), ("do", 0, None), ("move", 0)]
        self.assertEqual(log_of(EVERY, "queues", queued)[0], (("put", 3, 2), ("got", 3, 2)))

    def test_the_rule_lets_the_log_of_a_run(self):
        for program in random_programs(19, 20, rows=2):
            for rule in RULES:
                for run, _ in whole_runs(program, rule)[:5]:
                    for many in (len(run), len(run) // 2):
                        self.assertTrue(is_let(log_of(program, rule, run[:many]), rule), (program, rule, run))

    def test_spoiled(self):
        for log, rule in ((SIGNS_LOG, "queues"), (LATE_LOG, "lanes"), (SIGNS_LOG, "views")):
            run = judge_log(log, rule).run
            for other in changed_runs(run):
                evidence = Let([])
                evidence.run = other
                program = program_of(log)
                right = end_of_run(program, rule, other) is not None and log_of(program, rule, other) == log
                self.assertIs(evidence.shows(log, rule), right, other)
        unlet = judge_log(LATE_LOG, "queues")
        self.check_spoiled(unlet, "states", spoiled_states(unlet.states), LATE_LOG, "queues")
        unlet.states.reverse()
        self.check_shown(unlet, LATE_LOG, "queues")
        self.assertFalse(unlet.shows(LATE_LOG, "lanes"))
        let = list(agreeing_states(LATE_LOG, "lanes"))
        self.assertFalse(Unlet(let).shows(LATE_LOG, "lanes"))

    def test_a_whole_run_that_gets_something_else(self):
        run = [("do", 0, None), ("do", 0, None), ("do", 1, None), ("do", 1, None)]
        log = ((("put", 0, 1), ("got", 1, 0)), (("put", 1, 1), ("got", 0, 1)))
        self.assertTrue(Let(run).shows(log, "one"))
        self.assertIsNotNone(outcome_of(program_of(SIGNS_LOG), "one", run))
        self.assertFalse(Let(run).shows(SIGNS_LOG, "one"))
        self.assertIsNone(replayed(program_of(log), "one", run + run))

    def test_equality_and_copies(self):
        run, states = [["do", 0, None]], [["a", []]]
        let, unlet = Let(tuple(run)), Unlet(tuple(states))
        self.assertEqual([let.run, unlet.states], [[("do", 0, None)], [("a", ())]])
        self.check_equality(let, Let([("do", 0, None)]), [Let([]), Let([("do", 0, False)]), Unlet([("do", 0, None)])])
        self.check_equality(unlet, Unlet(states), [Unlet([]), Unlet(states * 2), Let(states)])
        run.clear()
        states.clear()
        self.assertEqual([let.run, unlet.states], [[("do", 0, None)], [("a", ())]])
        judge_log(SIGNS_LOG, "queues").run.clear()
        self.check_shown(judge_log(SIGNS_LOG, "queues"), SIGNS_LOG, "queues")

    def test_errors(self):
        for log in BAD_LOGS:
            self.assertRaises(BadLog, program_of, log)
            self.assertRaises(BadLog, rules_for, log)
            for function in (judge_log, is_let, Let([]).shows, Unlet([]).shows):
                self.assertRaises(BadLog, function, log, "one")
                self.assertRaises(BadLog, function, log, None)
        for rule in BAD_RULES:
            for function in (judge_log, is_let, Let([]).shows, Unlet([]).shows):
                self.assertRaises(BadRule, function, SIGNS_LOG, rule)
            self.assertRaises(BadRule, log_of, SIGNS, rule, None)
        for program in BAD_PROGRAMS:
            self.assertRaises(BadProgram, log_of, program, None, None)
        for run, index in ((None, None), ("", None), ([None], 0), ([("do", 0, None)] * 3, 2)):
            with self.assertRaises(BadRun) as caught:
                log_of(HUGE[:1] + ((),) if index == 0 else SIGNS, "one", run)
            self.assertEqual(caught.exception.index, index)

    def test_limits(self):
        full = ((FENCE,) * 14, (FENCE,) * 9, (FENCE,) * 9, (FENCE,))
        self.assertEqual(rules_for(full), list(RULES))
        log = (padded(0, 10, ("put", 0, 1)), padded(0, 14, ("got", 0, 1)), padded(8, 7, ("got", 0, 1)))
        for rule in ("one", "views"):
            self.assertEqual(len(agreeing_states(log, rule)), 3001)
            for function in (judge_log, is_let, Let([]).shows, Unlet([]).shows):
                self.assertRaises(TooLarge, function, log, rule)
        self.assertRaises(TooLarge, rules_for, log)
        less = (log[0][:-1],) + log[1:]
        self.assertTrue(is_let(less, "one"))
        # the states of the program that do not agree are not counted
        many = tuple(tuple(("got", place, 0) for place in (0, 1, 2) * 4) for _ in range(2)) + ((("put", 0, 1),) * 3,)
        self.assertTrue(is_let(many, "one"))


if __name__ == "__main__":
    unittest.main()
