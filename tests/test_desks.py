"""Desks [15]."""

import unittest
from copy import deepcopy

from memoryviews.desks import Desk
from memoryviews.errors import BadProgram, BadRule, NoDeed, NotOver, NothingDone
from memoryviews.machines import first_state
from memoryviews.runs import all_outcomes, deeds_behind, states_of
from tests.cases import BAD_DEEDS, BAD_PROGRAMS, BAD_RULES, EMPTIES, EVERY, MESSAGE, RULES, SIGNS, UNSEEN, random_programs


class Stop(Exception):
    pass


class Halt(BaseException):
    pass


def seen(desk):
    """All that a desk tells."""
    return (desk.program, desk.rule, desk.state(), desk.deeds(), desk.journal(), desk.is_over())


class TestDesks(unittest.TestCase):

    def test_at_first(self):
        for rule in RULES:
            desk = Desk(EVERY, rule)
            self.assertEqual(seen(desk), (EVERY, rule, first_state(EVERY, rule), deeds_behind(EVERY, rule, []), [], False))
            self.assertRaises(NotOver, desk.outcome)
            self.assertRaises(NothingDone, desk.undo)
            over = Desk(EMPTIES, rule)
            self.assertIs(over.is_over(), True)
            self.assertEqual(over.outcome(), (((0, 0, 0),) * 4, (0, 0, 0, 0)))

    def test_doing_and_undoing(self):
        for program in random_programs(20, 10) + [SIGNS, MESSAGE]:
            for rule in RULES:
                for outcome, run in all_outcomes(program, rule).runs.items():
                    desk = Desk(program, rule)
                    states = states_of(program, rule, run)
                    for at, deed in enumerate(run):
                        self.assertEqual([desk.state(), desk.journal()], [states[at], run[:at]])
                        self.assertIs(desk.is_over(), False)
                        self.assertIn(deed, desk.deeds())
                        self.assertEqual(desk.deeds(), deeds_behind(program, rule, run[:at]))
                        self.assertIsNone(desk.do(deed))
                    self.assertIs(desk.is_over(), True)
                    self.assertEqual([desk.outcome(), desk.deeds(), desk.journal()], [outcome, [], run])
                    for at in reversed(range(len(run))):
                        self.assertEqual(desk.undo(), run[at])
                        self.assertEqual([desk.state(), desk.journal()], [states[at], run[:at]])
                        self.assertEqual(desk.deeds(), deeds_behind(program, rule, run[:at]))
                    self.assertRaises(NothingDone, desk.undo)

    def test_a_refused_call_changes_nothing(self):
        desk = Desk(SIGNS, "one")
        desk.do(("do", 0, None))
        before = deepcopy(seen(desk))
        for deed in BAD_DEEDS:
            self.assertRaises(NoDeed, desk.do, deed)
            self.assertEqual(seen(desk), before)
        self.assertRaises(NotOver, desk.outcome)
        self.assertEqual(seen(desk), before)
        fresh = Desk(SIGNS, "queues")
        self.assertRaises(NothingDone, fresh.undo)
        self.assertRaises(NoDeed, fresh.do, ("move", 0))
        self.assertEqual(seen(fresh), seen(Desk(SIGNS, "queues")))

    def test_deeds_of_other_rules(self):
        desk = Desk(SIGNS, "queues")
        desk.do(("do", 0, None))
        for deed in (("move", 0, 0), ("move", False), ("move", 1), ["move", 0]):
            self.assertRaises(NoDeed, desk.do, deed)
        views = Desk(SIGNS, "views")
        for deed in (("do", 0, None), ("do", 0, 0), ("do", 0, 2), ("do", 0, True)):
            self.assertRaises(NoDeed, views.do, deed)
        views.do(("do", 0, 1))
        self.assertRaises(NoDeed, views.do, ("do", 0, False))

    def test_errors(self):
        for program in BAD_PROGRAMS:
            self.assertRaises(BadProgram, Desk, program, "one")
            self.assertRaises(BadProgram, Desk, program, None)
        for rule in BAD_RULES:
            self.assertRaises(BadRule, Desk, SIGNS, rule)

    def test_what_is_returned_is_new(self):
        desk = Desk(SIGNS, "queues")
        desk.do(("do", 0, None))
        before = deepcopy(seen(desk))
        desk.journal().append(("do", 1, None))
        desk.deeds().clear()
        self.assertEqual(seen(desk), before)

    def test_branches(self):
        desk = Desk(SIGNS, "queues")
        desk.do(("do", 0, None))
        branch = desk.branch()
        self.assertIsInstance(branch, Desk)
        self.assertEqual(seen(branch), seen(desk))
        before = deepcopy(seen(desk))
        branch.do(("do", 1, None))
        self.assertEqual(seen(desk), before)
        branch.undo()
        branch.undo()
        self.assertRaises(NothingDone, branch.undo)
        self.assertEqual(seen(desk), before)
        other = deepcopy(seen(branch))
        desk.do(("move", 0))
        desk.undo()
        desk.undo()
        self.assertEqual(seen(branch), other)

    def test_equality(self):
        self.assertEqual(Desk(SIGNS, "one"), Desk(SIGNS, "one"))
        self.assertFalse(Desk(SIGNS, "one") != Desk(SIGNS, "one").branch())
        self.assertNotEqual(Desk(SIGNS, "one"), Desk(SIGNS, "views"))
        self.assertNotEqual(Desk(SIGNS, "one"), Desk(MESSAGE, "one"))


class TestAttempts(unittest.TestCase):

    def setUp(self):
        self.desk = Desk(SIGNS, "queues")
        self.desk.do(("do", 0, None))
        self.before = deepcopy(seen(self.desk))

    def test_returns(self):
        def work(desk):
            self.assertIs(desk, self.desk)
            self.assertEqual(seen(desk), self.before)
            for deed in (("do", 0, None), ("do", 1, None), ("do", 1, None), ("move", 0), ("move", 1)):
                desk.do(deed)
            return desk.outcome()

        self.assertEqual(self.desk.attempt(work), UNSEEN)
        self.assertEqual(seen(self.desk), self.before)
        self.assertIsNone(self.desk.attempt(lambda desk: desk.do(("move", 0))))
        self.assertEqual(seen(self.desk), self.before)

    def test_only_its_own_deeds_can_be_undone(self):
        def work(desk):
            self.assertRaises(NothingDone, desk.undo)
            desk.do(("do", 1, None))
            self.assertEqual(desk.undo(), ("do", 1, None))
            self.assertRaises(NothingDone, desk.undo)
            self.assertEqual(seen(desk), self.before)
            desk.do(("move", 0))

        self.desk.attempt(work)
        self.assertEqual(seen(self.desk), self.before)
        self.assertEqual(self.desk.undo(), ("do", 0, None))
        self.assertRaises(NothingDone, self.desk.undo)

    def test_errors_are_passed_on(self):
        for error in (Stop, Halt, NoDeed, KeyError):
            def work(desk):
                desk.do(("do", 1, None))
                raise error("out")

            with self.assertRaises(error):
                self.desk.attempt(work)
            self.assertEqual(seen(self.desk), self.before)
        self.assertRaises(NoDeed, self.desk.attempt, lambda desk: desk.do(("move", 1)))
        self.assertRaises(NothingDone, self.desk.attempt, lambda desk: desk.undo())
        self.assertEqual(seen(self.desk), self.before)
        self.assertEqual(self.desk.undo(), ("do", 0, None))

    def test_attempts_within_one_another(self):
        def inner(desk):
            self.assertRaises(NothingDone, desk.undo)
            desk.do(("do", 0, None))
            desk.do(("move", 0))
            if len(desk.journal()) == 4:
                raise Stop()

        def outer(desk):
            desk.do(("do", 1, None))
            within = deepcopy(seen(desk))
            self.assertRaises(Stop, desk.attempt, inner)
            self.assertEqual(seen(desk), within)
            self.assertEqual(desk.attempt(lambda other: other.attempt(lambda last: last.do(("move", 1))) or "done"), "done")
            self.assertEqual(seen(desk), within)
            self.assertEqual(desk.undo(), ("do", 1, None))
            self.assertRaises(NothingDone, desk.undo)
            return desk.journal()

        self.assertEqual(self.desk.attempt(outer), [("do", 0, None)])
        self.assertEqual(seen(self.desk), self.before)

    def test_a_branch_out_of_an_attempt(self):
        def work(desk):
            desk.do(("do", 1, None))
            return desk.branch()

        branch = self.desk.attempt(work)
        self.assertEqual(seen(self.desk), self.before)
        self.assertEqual(branch.journal(), [("do", 0, None), ("do", 1, None)])
        branch.undo()
        self.assertEqual(branch.undo(), ("do", 0, None))
        self.assertRaises(NothingDone, branch.undo)
        self.assertEqual(seen(self.desk), self.before)

    def test_a_branch_in_which_all_can_be_undone(self):
        def work(desk):
            other = desk.branch()
            self.assertEqual(other.undo(), ("do", 0, None))
            self.assertRaises(NothingDone, desk.undo)

        self.desk.attempt(work)
        self.assertEqual(seen(self.desk), self.before)


if __name__ == "__main__":
    unittest.main()
