"""What must not be [10]."""

import unittest

from memoryviews.errors import BadProgram, BadRule, BadWish, TooLarge
from memoryviews.wishes import Broken, Safe, is_safe, judge_wish
from tests.cases import ANYTHING, BAD_PROGRAMS, BAD_RULES, EMPTIES, FULL, HUGE, LOCK, ONE_MORE, RULES, SIGNS
from tests.cases import EvidenceChecks, changed_runs, random_programs, spoiled_states
from tests.reference import reference_states, replayed

WISH = ((0, 3), (1, 3))
BAD_WISHES = ANYTHING + [
    ((0, 0),), ((0, 0), (1, 0), (2, 0)), [(0, 0), (1, 0)], ([0, 0], (1, 0)), ((0, 0), [1, 0]), ((1, 0), (0, 0)),
    ((0, 0), (0, 1)), ((1, 0), (1, 1)), ((0, 0), (2, 0)), ((-1, 0), (1, 0)), ((0, 2), (1, 0)), ((0, 0), (1, 2)),
    ((0, -1), (1, 0)), ((False, 0), (1, 0)), ((0, 0), (True, 0)), ((0, False), (1, 0)), ((0, 0), (1, True)),
    ((0, None), (1, 0)), ((None, 0), (1, 0)), ((0, 0), None), (None, (1, 0)), ((0,), (1, 0)), ((0, 0, 0), (1, 0)),
    (0, 0, 1, 0), ((0, "0"), (1, 0)), "ab", ("ab", "cd"),
]


def is_broken(machine, wish):
    return all(machine.at[hand] == at for hand, at in wish)


class TestWishes(EvidenceChecks, unittest.TestCase):

    def test_the_lock(self):
        for rule, safe in zip(RULES, (True, False, False, False)):
            self.assertIs(is_safe(LOCK, rule, WISH), safe)
            evidence = judge_wish(LOCK, rule, WISH)
            self.assertIsInstance(evidence, Safe if safe else Broken)
            self.check_shown(evidence, LOCK, rule, WISH)

    def test_a_run_without_deeds(self):
        for rule in RULES:
            evidence = judge_wish(SIGNS, rule, ((0, 0), (1, 0)))
            self.assertEqual(evidence.run, [])
            self.check_shown(evidence, SIGNS, rule, ((0, 0), (1, 0)))

    def test_against_reference(self):
        for program in random_programs(9, 25, hands=(2, 2, 3)):
            wishes = [((one, at), (other, to)) for one in range(len(program)) for other in range(one + 1, len(program))
                      for at in range(len(program[one])) for to in range(len(program[other]))]
            for rule in RULES:
                machines = reference_states(program, rule)
                for wish in wishes[:6]:
                    broken = any(is_broken(machine, wish) for machine in machines.values())
                    evidence = judge_wish(program, rule, wish)
                    self.assertIs(isinstance(evidence, Broken), broken)
                    self.assertIs(isinstance(evidence, Safe), not broken)
                    self.check_shown(evidence, program, rule, wish)
                    if broken:
                        self.assertTrue(is_broken(replayed(program, rule, evidence.run), wish))
                        self.assertFalse(Safe(list(machines)).shows(program, rule, wish))
                    else:
                        self.assertEqual(set(evidence.states), set(machines))

    def test_spoiled(self):
        safe = judge_wish(LOCK, "one", WISH)
        self.check_spoiled(safe, "states", spoiled_states(safe.states), LOCK, "one", WISH)
        safe.states.reverse()
        self.check_shown(safe, LOCK, "one", WISH)
        for rule in ("queues", "views"):
            run = judge_wish(LOCK, rule, WISH).run
            for other in changed_runs(run):
                evidence = Broken([])
                evidence.run = other
                machine = replayed(LOCK, rule, other)
                self.assertIs(evidence.shows(LOCK, rule, WISH), machine is not None and is_broken(machine, WISH), other)

    def test_equality_and_copies(self):
        run, states = [["do", 0, None]], [["a", []]]
        safe, broken = Safe(tuple(states)), Broken(tuple(run))
        self.assertEqual([safe.states, broken.run], [[("a", ())], [("do", 0, None)]])
        self.check_equality(safe, Safe([("a", ())]), [Safe([]), Broken([("a", ())])])
        self.check_equality(broken, Broken([("do", 0, None)]), [Broken([]), Safe([("do", 0, None)])])
        second = Broken(run)
        run[0].append(1)
        run.clear()
        self.assertEqual(second.run, [("do", 0, None)])
        evidence = judge_wish(LOCK, "one", WISH)
        evidence.states.clear()
        self.check_shown(judge_wish(LOCK, "one", WISH), LOCK, "one", WISH)

    def test_errors(self):
        functions = (judge_wish, is_safe, Safe([]).shows, Broken([]).shows)
        for function in functions:
            for program in BAD_PROGRAMS:
                self.assertRaises(BadProgram, function, program, None, None)
            for rule in BAD_RULES:
                self.assertRaises(BadRule, function, HUGE, rule, None)
            for wish in BAD_WISHES:
                self.assertRaises(BadWish, function, SIGNS, "one", wish)
            self.assertRaises(BadWish, function, EMPTIES, "one", ((0, 0), (1, 0)))
            self.assertRaises(BadWish, function, HUGE, "one", ((0, 8), (1, 8)))
            for rule in RULES:
                self.assertRaises(TooLarge, function, ONE_MORE[rule], rule, ((0, 0), (1, 0)))
        for rule in RULES:
            self.assertFalse(is_safe(FULL, rule, ((0, 13), (3, 0))))


if __name__ == "__main__":
    unittest.main()
