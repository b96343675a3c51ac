"""Races [19]."""

import unittest

from memoryviews.errors import BadProgram, TooLarge
from memoryviews.races import Race, Raceless, is_raceless, judge_race, races_of
from memoryviews.runs import outcomes
from tests.cases import BAD_PROGRAMS, EMPTIES, FENCE, FOUR, FULL, HUGE, MESSAGE, ONE_MORE, RULES, SIGNS
from tests.cases import EvidenceChecks, changed_runs, random_programs, spoiled_states
from tests.reference import reference_states, replayed

HANDED = ((("put", 0, 1), ("swap", 0, 1, 1)), (("swap", 0, 1, 2), ("only", 0, 1, 1), ("get", 1, 0)))
LAZY = ((("put", 1, 1), ("get", 0, 0)), (("get", 0, 0), ("only", 0, 1, 1), ("get", 1, 1)))


def clashing(machine):
    """All pairs of hands of a machine of the reference whose next rows clash."""
    found = []
    for hand, rows in enumerate(machine.program):
        for other in range(hand + 1, len(machine.program)):
            if machine.at[hand] < len(rows) and machine.at[other] < len(machine.program[other]):
                one, two = rows[machine.at[hand]], machine.program[other][machine.at[other]]
                places = [{"put": 1, "give": 1, "get": 2, "swap": 2}.get(row[0]) for row in (one, two)]
                if None not in places and one[places[0]] == two[places[1]]:
                    words = {one[0], two[0]}
                    if words != {"get"} and words != {"swap"}:
                        found.append((hand, other))
    return found


class TestRaces(EvidenceChecks, unittest.TestCase):

    def test_rows_that_clash(self):
        rows = {"put": ("put", 0, 1), "give": ("give", 0, 1), "get": ("get", 1, 0), "swap": ("swap", 1, 0, 1),
                "fence": FENCE, "put elsewhere": ("put", 1, 0), "get elsewhere": ("get", 0, 1)}
        harmless = {("get", "get"), ("swap", "swap"), ("get elsewhere", "get elsewhere")}
        for one in rows:
            for other in rows:
                there = one == "fence" or other == "fence" or ("elsewhere" in one) != ("elsewhere" in other)
                race = not there and (one, other) not in harmless
                program = ((rows[one],), (), (rows[other],))
                self.assertEqual(races_of(program), [(0, 2)] if race else [], program)
                self.assertIs(is_raceless(program), not race)
                evidence = judge_race(program)
                self.check_shown(evidence, program)
                if race:
                    self.assertEqual([evidence.run, evidence.hands], [[], (0, 2)])

    def test_onlys_do_not_clash(self):
        program = ((("only", 0, 0, 1), FENCE), (("put", 0, 1), FENCE))
        self.assertIs(is_raceless(program), True)

    def test_against_reference(self):
        for program in random_programs(28, 60, hands=(1, 2, 2, 3, 3)) + [SIGNS, MESSAGE, FOUR, HANDED, LAZY]:
            machines = reference_states(program, "one")
            races = sorted({pair for machine in machines.values() for pair in clashing(machine)})
            self.assertEqual(races_of(program), races, program)
            self.assertIs(is_raceless(program), not races)
            evidence = judge_race(program)
            self.check_shown(evidence, program)
            if races:
                self.assertIsInstance(evidence, Race)
                self.assertIn(evidence.hands, clashing(replayed(program, "one", evidence.run)))
                self.assertFalse(Raceless(list(machines)).shows(program))
            else:
                self.assertIsInstance(evidence, Raceless)
                self.assertEqual(set(evidence.states), set(machines))

    def test_without_races_all_rules_are_the_same(self):
        raceless = [program for program in random_programs(29, 150, hands=(2, 2, 3)) if is_raceless(program)]
        self.assertGreater(len(raceless), 10)
        for program in raceless + [HANDED, EMPTIES]:
            self.assertIs(is_raceless(program), True)
            for rule in RULES:
                self.assertEqual(outcomes(program, rule), outcomes(program, "one"), program)

    def test_a_row_that_is_never_done(self):
        # the get at place 1 is left out, because nothing else is ever put at place 0
        self.assertEqual(races_of(LAZY), [])
        self.assertEqual(races_of((LAZY[0], (("get", 0, 0), ("only", 0, 0, 1), ("get", 1, 1)))), [(0, 1)])

    def test_spoiled(self):
        evidence = judge_race(MESSAGE)
        self.check_spoiled(evidence, "hands", [None, (), (0,), (1, 0), (0, 0), (0, 2), [0, 1], (False, 1), (0, True),
                                               (0, 1, 1), 1, "01", {}], MESSAGE)
        run = [("do", 1, None), ("do", 0, None), ("do", 0, None)]
        program = (MESSAGE[0] + (("put", 0, 2),), MESSAGE[1])
        for other in changed_runs(run) + [run]:
            race = Race([], (0, 1))
            race.run = other
            machine = replayed(program, "one", other)
            self.assertIs(race.shows(program), machine is not None and (0, 1) in clashing(machine), other)
        raceless = judge_race(HANDED)
        self.check_spoiled(raceless, "states", spoiled_states(raceless.states), HANDED)
        raceless.states.reverse()
        self.check_shown(raceless, HANDED)
        self.assertFalse(raceless.shows(MESSAGE))
        self.assertFalse(Race([], (0, 1)).shows(HANDED))

    def test_equality_and_copies(self):
        run, states, hands = [["do", 0, None]], [["a", []]], [0, 1]
        race, raceless = Race(run, hands), Raceless(states)
        self.assertEqual([race.run, race.hands, raceless.states], [[("do", 0, None)], (0, 1), [("a", ())]])
        self.check_equality(race, Race((("do", 0, None),), (0, 1)), [
            Race([], hands), Race(run, (0, 2)), Race(run, (False, 1)), raceless])
        self.check_equality(raceless, Raceless([("a", ())]), [Raceless([]), Raceless(states * 2), race])
        for given in (run, states, hands):
            given.clear()
        self.assertEqual([race.run, race.hands, raceless.states], [[("do", 0, None)], (0, 1), [("a", ())]])
        judge_race(HANDED).states.clear()
        self.check_shown(judge_race(HANDED), HANDED)
        races_of(MESSAGE).clear()
        self.assertEqual(races_of(MESSAGE), [(0, 1)])

    def test_errors(self):
        for function in (judge_race, is_raceless, races_of, Race([], (0, 1)).shows, Raceless([]).shows):
            for program in BAD_PROGRAMS:
                self.assertRaises(BadProgram, function, program)
            for program in (ONE_MORE["one"], HUGE):
                self.assertRaises(TooLarge, function, program)
        self.assertIs(is_raceless(FULL), True)
        self.assertEqual(len(judge_race(FULL).states), 3000)
        # there is no limit by the other rules
        self.assertEqual(races_of(ONE_MORE["queues"]), [(0, 1), (0, 2)])


if __name__ == "__main__":
    unittest.main()
