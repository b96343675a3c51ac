"""Machines, by each of the four rules: [3] to [7]."""

import unittest

from memoryviews.errors import BadProgram, BadRule
from memoryviews.exploring import explore
from memoryviews.machines import first_state
from memoryviews.runs import deeds_behind, outcome_of, states_of
from tests.cases import BAD_PROGRAMS, BAD_RULES, EMPTIES, EVERY, FENCE, RULES, SIGNS, random_programs
from tests.reference import reference_states

NOTHING = (0, 0, 0)
ZERO = (0, 0, 0, 0)
FIRST = (0, ZERO, False)


class TestFirst(unittest.TestCase):

    def test_first_states(self):
        stands = ((0, NOTHING), (0, NOTHING))
        self.assertEqual(first_state(SIGNS, "one"), (stands, ZERO, None))
        self.assertEqual(first_state(SIGNS, "queues"), (stands, ZERO, ((), ())))
        self.assertEqual(first_state(SIGNS, "lanes"), (stands, ZERO, ((), ())))
        self.assertEqual(first_state(SIGNS, "views"), (stands, ((FIRST,),) * 4, ((ZERO, ZERO), ZERO)))
        self.assertEqual(first_state(EMPTIES, "one"), (((0, NOTHING),) * 4, ZERO, None))

    def test_errors(self):
        for program in BAD_PROGRAMS:
            self.assertRaises(BadProgram, first_state, program, "one")
            self.assertRaises(BadProgram, first_state, program, None)
        for rule in BAD_RULES:
            self.assertRaises(BadRule, first_state, SIGNS, rule)


class TestAgainstReference(unittest.TestCase):
    """All states and deeds are those of the second machine of the tests."""

    def check(self, program, rule):
        origins, machines = explore(program, rule), reference_states(program, rule)
        self.assertEqual(set(origins), set(machines), (program, rule))
        self.assertEqual(first_state(program, rule), next(iter(machines)))
        for state in list(origins)[:40]:
            run = []
            at = state
            while origins[at] is not None:
                at, deed = origins[at]
                run.insert(0, deed)
            self.assertEqual(deeds_behind(program, rule, run), machines[state].deeds())
            self.assertEqual(states_of(program, rule, run)[-1], state)
            if machines[state].over():
                self.assertEqual(outcome_of(program, rule, run), machines[state].outcome())

    def test_small_programs(self):
        for program in random_programs(1, 120):
            for rule in RULES:
                self.check(program, rule)

    def test_every_word(self):
        for rule in RULES:
            self.check(EVERY, rule)


class TestOne(unittest.TestCase):

    def test_rows(self):
        program = ((("put", 1, 2), ("get", 1, 1), ("give", 3, 1), ("swap", 0, 3, 1), FENCE),)
        run = [("do", 0, None)] * 5
        self.assertEqual(states_of(program, "one", run), [
            (((0, (0, 0, 0)),), (0, 0, 0, 0), None),
            (((1, (0, 0, 0)),), (0, 2, 0, 0), None),
            (((2, (0, 2, 0)),), (0, 2, 0, 0), None),
            (((3, (0, 2, 0)),), (0, 2, 0, 2), None),
            (((4, (2, 2, 0)),), (0, 2, 0, 1), None),
            (((5, (2, 2, 0)),), (0, 2, 0, 1), None),
        ])
        self.assertEqual(deeds_behind(program, "one", run), [])
        self.assertEqual(outcome_of(program, "one", run), (((2, 2, 0),), (0, 2, 0, 1)))

    def test_only(self):
        rows = (("get", 0, 0), ("only", 0, 1, 2), ("put", 1, 1), ("put", 2, 1), ("put", 3, 1))
        program = (rows, (("put", 0, 1),))
        skipped = [("do", 0, None)] * 3 + [("do", 1, None)]
        self.assertEqual([state[0][0][0] for state in states_of(program, "one", skipped)], [0, 1, 4, 5, 5])
        self.assertEqual(outcome_of(program, "one", skipped)[1], (1, 0, 0, 1))
        done = [("do", 1, None)] + [("do", 0, None)] * 5
        self.assertEqual([state[0][0][0] for state in states_of(program, "one", done)], [0, 0, 1, 2, 3, 4, 5])
        self.assertEqual(outcome_of(program, "one", done)[1], (1, 1, 1, 1))

    def test_an_only_that_leaves_out_the_last_row(self):
        program = ((("only", 2, 3, 1), FENCE),)
        for rule in RULES:
            run = [("do", 0, None)]
            self.assertEqual(states_of(program, rule, run)[-1][0], ((2, NOTHING),))
            self.assertEqual(outcome_of(program, rule, run), ((NOTHING,), ZERO))

    def test_no_rows(self):
        for rule in RULES:
            self.assertEqual(deeds_behind(EMPTIES, rule, []), [])
            self.assertEqual(outcome_of(EMPTIES, rule, []), ((NOTHING,) * 4, ZERO))


class TestQueues(unittest.TestCase):

    def test_a_queue(self):
        program = ((("put", 0, 1), ("put", 1, 2), ("put", 0, 3), ("get", 0, 0), ("get", 1, 2)), (("get", 0, 0),))
        run = [("do", 0, None)] * 4
        state = states_of(program, "queues", run)[-1]
        self.assertEqual(state, (((4, (3, 0, 0)), (0, NOTHING)), ZERO, (((0, 1), (1, 2), (0, 3)), ())))
        self.assertEqual(deeds_behind(program, "queues", run), [("do", 0, None), ("move", 0), ("do", 1, None)])
        self.assertEqual(deeds_behind(program, "lanes", run),
                         [("do", 0, None), ("move", 0, 0), ("move", 0, 1), ("do", 1, None)])
        moved = run + [("move", 0), ("do", 1, None)]
        self.assertEqual(states_of(program, "queues", moved)[-1],
                         (((4, (3, 0, 0)), (1, (1, 0, 0))), (1, 0, 0, 0), (((1, 2), (0, 3)), ())))
        laned = run + [("move", 0, 1), ("move", 0, 0)]
        self.assertEqual(states_of(program, "lanes", laned)[-1],
                         (((4, (3, 0, 0)), (0, NOTHING)), (1, 2, 0, 0), (((0, 3),), ())))

    def test_fences_and_swaps_wait(self):
        for rule, move in (("queues", ("move", 0)), ("lanes", ("move", 0, 0))):
            for row in (FENCE, ("swap", 0, 1, 1)):
                program = ((("put", 0, 1), row), (row,))
                run = [("do", 0, None)]
                self.assertEqual(deeds_behind(program, rule, run), [move, ("do", 1, None)])
                self.assertEqual(deeds_behind(program, rule, run + [move]), [("do", 0, None), ("do", 1, None)])
            program = ((("put", 0, 1), ("only", 0, 0, 1), ("get", 0, 0)),)
            self.assertEqual(deeds_behind(program, rule, [("do", 0, None)]), [("do", 0, None), move])

    def test_a_swap_is_done_at_the_memory(self):
        program = ((("swap", 1, 2, 3),), ())
        for rule in ("queues", "lanes"):
            self.assertEqual(states_of(program, rule, [("do", 0, None)])[-1],
                             (((1, NOTHING), (0, NOTHING)), (0, 0, 3, 0), ((), ())))

    def test_a_state_is_not_over_while_something_waits(self):
        program = ((("put", 0, 1),),)
        for rule, move in (("queues", ("move", 0)), ("lanes", ("move", 0, 0))):
            self.assertEqual(deeds_behind(program, rule, [("do", 0, None)]), [move])
            self.assertEqual(outcome_of(program, rule, [("do", 0, None), move]), ((NOTHING,), (1, 0, 0, 0)))


class TestViews(unittest.TestCase):

    def test_puts_come_to_stand_anywhere_behind_what_was_seen(self):
        program = ((("put", 0, 1),), (("put", 0, 2), ("get", 0, 0)), (("get", 1, 0), ("get", 2, 0)))
        run = [("do", 0, 1)]
        self.assertEqual(deeds_behind(program, "views", run), [("do", 1, 1), ("do", 1, 2), ("do", 2, 0), ("do", 2, 1)])
        run = run + [("do", 2, 1), ("do", 1, 1)]
        state = states_of(program, "views", run)[-1]
        self.assertEqual(state[1][0], (FIRST, (2, (1, 0, 0, 0), False), (1, (2, 0, 0, 0), False)))
        self.assertEqual(state[2], (((2, 0, 0, 0), (1, 0, 0, 0), (2, 0, 0, 0)), ZERO))
        self.assertEqual(deeds_behind(program, "views", run), [("do", 1, 1), ("do", 1, 2), ("do", 2, 2)])

    def test_a_get_sees_what_the_hand_had_seen(self):
        program = ((("put", 1, 1), ("put", 0, 1)), (("get", 0, 0), ("get", 1, 1)))
        run = [("do", 0, 1), ("do", 0, 1), ("do", 1, 1)]
        self.assertEqual(states_of(program, "views", run)[-1][2], (((1, 1, 0, 0), (1, 1, 0, 0)), ZERO))
        self.assertEqual(deeds_behind(program, "views", run), [("do", 1, 1)])

    def test_swaps_are_tied(self):
        program = ((("swap", 0, 0, 1),), (("swap", 0, 0, 2),), (("put", 0, 3),))
        run = [("do", 0, 0)]
        state = states_of(program, "views", run)[-1]
        self.assertEqual(state[1][0], (FIRST, (1, (1, 0, 0, 0), True)))
        self.assertEqual(state[0][0], (1, NOTHING))
        # neither a swap nor a put can come between a message and the one that is tied to it
        self.assertEqual(deeds_behind(program, "views", run), [("do", 1, 1), ("do", 2, 2)])
        run = run + [("do", 1, 1)]
        state = states_of(program, "views", run)[-1]
        self.assertEqual(state[1][0], (FIRST, (1, (1, 0, 0, 0), True), (2, (2, 0, 0, 0), True)))
        self.assertEqual(state[0][1], (1, (1, 0, 0)))
        self.assertEqual(deeds_behind(program, "views", run), [("do", 2, 3)])
        self.assertEqual(outcome_of(program, "views", run + [("do", 2, 3)])[1], (3, 0, 0, 0))

    def test_a_swap_ahead_of_later_messages(self):
        program = ((("put", 0, 1),), (("swap", 0, 0, 2),), (("put", 0, 3),))
        state = states_of(program, "views", [("do", 0, 1), ("do", 1, 0)])[-1]
        self.assertEqual(state[1][0], (FIRST, (2, (1, 0, 0, 0), True), (1, (2, 0, 0, 0), False)))
        self.assertEqual(state[2][0], ((2, 0, 0, 0), (1, 0, 0, 0), ZERO))
        self.assertEqual(deeds_behind(program, "views", [("do", 0, 1), ("do", 1, 0)]), [("do", 2, 2), ("do", 2, 3)])

    def test_fences_tell_one_another(self):
        program = ((("put", 2, 1), FENCE), (FENCE, ("get", 0, 2)))
        run = [("do", 0, 1), ("do", 0, None)]
        self.assertEqual(states_of(program, "views", run)[-1][2], (((0, 0, 1, 0), ZERO), (0, 0, 1, 0)))
        self.assertEqual(deeds_behind(program, "views", run), [("do", 1, None)])
        run = run + [("do", 1, None)]
        self.assertEqual(states_of(program, "views", run)[-1][2], (((0, 0, 1, 0), (0, 0, 1, 0)), (0, 0, 1, 0)))
        self.assertEqual(deeds_behind(program, "views", run), [("do", 1, 1)])

    def test_messages_move_up_in_all_views(self):
        # hand 1 puts ahead of what the fences, and the message at place 1, have seen
        program = ((("put", 0, 1), ("put", 1, 1), FENCE), (("put", 0, 2),))
        run = [("do", 0, 1), ("do", 0, 1), ("do", 0, None), ("do", 1, 1)]
        state = states_of(program, "views", run)[-1]
        self.assertEqual(state[1][1], (FIRST, (1, (2, 1, 0, 0), False)))
        self.assertEqual(state[2], (((2, 1, 0, 0), (1, 0, 0, 0)), (2, 1, 0, 0)))


if __name__ == "__main__":
    unittest.main()
