"""Queues and lanes with a room [11]."""

import unittest

from memoryviews.errors import BadOutcome, BadProgram, BadRoom, BadRule, TooLarge
from memoryviews.rooms import Roomy, judge_rooms, least_room, outcomes_with, room_for
from memoryviews.runs import outcomes
from tests.cases import ANYTHING, BAD_OUTCOMES, BAD_PROGRAMS, BAD_RULES, EMPTIES, FULL, HUGE, LATE, LOCK, MESSAGE, ONE_MORE
from tests.cases import SIGNS, UNSEEN
from tests.cases import EvidenceChecks, random_programs
from tests.reference import end_of_run, reference_outcomes

QUEUED = ("queues", "lanes")
# the last of 16 puts overtakes the first one only if all of them wait
SIXTEEN = ((("put", 0, 1),) * 15 + (("put", 1, 1),), (("get", 0, 1), ("get", 1, 0)))


class TestRooms(EvidenceChecks, unittest.TestCase):

    def test_outcomes_against_reference(self):
        for program in random_programs(10, 25, rows=4) + [SIGNS, MESSAGE, EMPTIES]:
            for rule in QUEUED:
                for room in range(4):
                    self.assertEqual(outcomes_with(program, rule, room), reference_outcomes(program, rule, room))

    def test_a_room_of_0_is_as_one(self):
        for program in random_programs(11, 25) + [SIGNS, MESSAGE, LOCK]:
            for rule in QUEUED:
                self.assertEqual(outcomes_with(program, rule, 0), outcomes(program, "one"))

    def test_a_greater_room_has_more(self):
        for program in random_programs(12, 25, rows=4) + [MESSAGE]:
            for rule in QUEUED:
                for room in range(5):
                    greater = outcomes_with(program, rule, room + 1)
                    self.assertTrue(all(outcome in greater for outcome in outcomes_with(program, rule, room)))

    def test_a_room_as_great_as_the_puts_of_a_hand(self):
        for program in random_programs(13, 25, rows=4) + [SIGNS, MESSAGE, LOCK]:
            puts = max(len([row for row in hand if row[0] in ("put", "give")]) for hand in program)
            for rule in QUEUED:
                for room in (puts, 16):
                    self.assertEqual(outcomes_with(program, rule, room), outcomes(program, rule))

    def test_judging(self):
        for program in random_programs(14, 30, rows=4) + [SIGNS, MESSAGE, LOCK, EMPTIES]:
            for rule in QUEUED:
                evidence = judge_rooms(program, rule)
                self.check_shown(evidence, program, rule)
                self.assertEqual(least_room(program, rule), evidence.number)
                comes = [reference_outcomes(program, rule, room) for room in range(evidence.number + 1)]
                whole = reference_outcomes(program, rule)
                self.assertEqual(comes[-1], whole)
                self.assertEqual(list(evidence.lost), list(range(evidence.number)))
                for room, run in evidence.lost.items():
                    outcome = end_of_run(program, rule, run)
                    self.assertIn(outcome, whole)
                    self.assertNotIn(outcome, comes[room])
                for outcome in whole:
                    least = min(room for room in range(len(comes)) if outcome in comes[room])
                    self.assertEqual(room_for(program, rule, outcome), least)

    def test_room_for(self):
        self.assertEqual(room_for(SIGNS, "queues", UNSEEN), 1)
        self.assertEqual(room_for(MESSAGE, "lanes", LATE), 2)
        self.assertIs(room_for(MESSAGE, "queues", LATE), None)
        self.assertEqual(room_for(MESSAGE, "lanes", (((0, 0, 0), (1, 1, 0)), (1, 1, 0, 0))), 0)

    def test_a_room_of_16(self):
        last = (((0, 0, 0), (1, 0, 0)), (1, 1, 0, 0))
        self.assertEqual(least_room(SIXTEEN, "lanes"), 16)
        self.assertEqual(room_for(SIXTEEN, "lanes", last), 16)
        self.assertNotIn(last, outcomes_with(SIXTEEN, "lanes", 15))
        self.assertIn(last, outcomes_with(SIXTEEN, "lanes", 16))
        evidence = judge_rooms(SIXTEEN, "lanes")
        self.assertEqual(list(evidence.lost), list(range(16)))
        self.check_shown(evidence, SIXTEEN, "lanes")
        self.assertEqual(least_room(SIXTEEN, "queues"), 0)

    def test_spoiled(self):
        evidence = judge_rooms(MESSAGE, "lanes")
        self.assertEqual(evidence.number, 2)
        self.check_spoiled(evidence, "number", [0, 1, 3, 16, 17, -1, None, True, "2", (2,)], MESSAGE, "lanes")
        lost = evidence.lost
        other = [("do", 0, None), ("do", 0, None), ("move", 0, 0), ("move", 0, 1), ("do", 1, None), ("do", 1, None)]
        spoiled = [{}, None, {0: lost[0]}, {1: lost[1]}, {**lost, 2: lost[1]}, {**lost, 1: other}, {**lost, 0: other},
                   {**lost, 0: lost[0][:-1]}, {**lost, 1: None}, {False: lost[0], 1: lost[1]}, {0: lost[0], True: lost[1]},
                   [lost[0], lost[1]], {**lost, None: lost[0]}]
        self.check_spoiled(evidence, "lost", spoiled, MESSAGE, "lanes")
        evidence.lost = {1: lost[1], 0: lost[0]}
        self.check_shown(evidence, MESSAGE, "lanes")
        self.assertFalse(evidence.shows(MESSAGE, "queues"))
        # more rooms than needed, although each run is by the rule
        more = Roomy(3, {0: lost[0], 1: lost[1], 2: lost[1]})
        self.assertFalse(more.shows(MESSAGE, "lanes"))
        # fewer rooms than needed, although each lesser one loses something
        self.assertFalse(Roomy(1, {0: lost[0]}).shows(MESSAGE, "lanes"))
        self.assertFalse(Roomy(0, {}).shows(MESSAGE, "lanes"))
        low = Roomy(0, {})
        self.assertTrue(low.shows(MESSAGE, "queues"))
        low.number = False
        self.assertFalse(low.shows(MESSAGE, "queues"))

    def test_equality_and_copies(self):
        run = [["do", 0, None]]
        lost = {0: run}
        roomy = Roomy(1, lost)
        self.assertEqual([roomy.number, roomy.lost], [1, {0: [("do", 0, None)]}])
        self.check_equality(roomy, Roomy(1, {0: (("do", 0, None),)}), [
            Roomy(2, lost), Roomy(True, lost), Roomy(1, {}), Roomy(1, {0: []}), Roomy(1, {False: run})])
        run.clear()
        lost.clear()
        self.assertEqual(roomy.lost, {0: [("do", 0, None)]})

    def test_errors(self):
        for program in BAD_PROGRAMS:
            self.assertRaises(BadProgram, outcomes_with, program, None, None)
            self.assertRaises(BadProgram, room_for, program, None, None)
            for function in (judge_rooms, least_room, Roomy(0, {}).shows):
                self.assertRaises(BadProgram, function, program, None)
        for rule in BAD_RULES + ["one", "views"]:
            self.assertRaises(BadRule, outcomes_with, HUGE, rule, None)
            self.assertRaises(BadRule, room_for, HUGE, rule, None)
            for function in (judge_rooms, least_room, Roomy(0, {}).shows):
                self.assertRaises(BadRule, function, HUGE, rule)
        for room in ANYTHING + [17, -2, "0", (0,), [0]]:
            if not (type(room) is int and 0 <= room <= 16):
                self.assertRaises(BadRoom, outcomes_with, HUGE, "queues", room)
        for outcome in BAD_OUTCOMES:
            self.assertRaises(BadOutcome, room_for, HUGE, "queues", outcome)

    def test_too_large(self):
        program = ONE_MORE["queues"]
        for rule in QUEUED:
            for function in (judge_rooms, least_room, Roomy(0, {}).shows):
                self.assertRaises(TooLarge, function, program, rule)
            self.assertRaises(TooLarge, room_for, program, rule, (((0, 0, 0),) * 3, (1, 0, 0, 0)))
            # what counts is the number of the states with the room
            self.assertRaises(TooLarge, outcomes_with, program, rule, 1)
            self.assertEqual(outcomes_with(program, rule, 0), outcomes(program, "one"))
            self.assertEqual(outcomes_with(FULL, rule, 16), [(((0, 0, 0),) * 4, (0, 0, 0, 0))])
            self.assertEqual(least_room(FULL, rule), 0)


if __name__ == "__main__":
    unittest.main()
