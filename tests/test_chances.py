"""Chances [31]."""

import unittest
from fractions import Fraction
from math import gcd

from memoryviews.chances import chance_of, chances, count_runs, run_counts
from memoryviews.errors import BadOutcome, BadProgram, BadRule, TooLarge
from memoryviews.runs import outcomes
from tests.cases import BAD_OUTCOMES, BAD_PROGRAMS, BAD_RULES, EMPTIES, EMPTY, EVERY, FENCE, FOUR, FULL, HUGE, LATE, LOCK
from tests.cases import MESSAGE, ONE_MORE, RULES, SIGNS, UNSEEN
from tests.cases import random_programs
from tests.reference import Machine, behind, whole_runs

SMALL = random_programs(310, 40, hands=(1, 2, 2), rows=2) + [SIGNS, MESSAGE, EMPTY, EMPTIES]


def reference_chances(program, rule):
    """A dict from all outcomes to their chances: each whole run by itself."""
    found = {}

    def go(machine, share):
        if machine.over():
            found[machine.outcome()] = found.get(machine.outcome(), 0) + share
        deeds = machine.deeds()
        for deed in deeds:
            go(behind(machine, deed), share / len(deeds))

    go(Machine(program, rule), Fraction(1))
    return found


class TestChances(unittest.TestCase):

    def check_form(self, program, rule):
        """Chances in lowest terms, which are together 1, and for all outcomes, ascending."""
        found = chances(program, rule)
        self.assertEqual(list(found), outcomes(program, rule))
        for chance in found.values():
            self.assertIs(type(chance), tuple)
            top, bottom = chance
            self.assertEqual([type(top), type(bottom), gcd(top, bottom)], [int, int, 1])
            self.assertTrue(1 <= top <= bottom)
        self.assertEqual(sum(Fraction(*chance) for chance in found.values()), 1)
        counts = run_counts(program, rule)
        self.assertEqual(list(counts), list(found))
        self.assertTrue(all(type(many) is int and many >= 1 for many in counts.values()))
        self.assertEqual(count_runs(program, rule), sum(counts.values()))
        return found

    def test_chances_against_all_whole_runs(self):
        for program in SMALL:
            for rule in RULES:
                found = self.check_form(program, rule)
                expected = reference_chances(program, rule)
                self.assertEqual({outcome: Fraction(*found[outcome]) for outcome in found}, expected)
                for outcome in found:
                    self.assertEqual(chance_of(program, rule, outcome), found[outcome])

    def test_numbers_of_whole_runs(self):
        for program in SMALL:
            for rule in RULES:
                every = [outcome for _, outcome in whole_runs(program, rule)]
                self.assertEqual(count_runs(program, rule), len(every))
                self.assertEqual(run_counts(program, rule), {outcome: every.count(outcome) for outcome in every})

    def test_larger_programs(self):
        for program in random_programs(311, 15, rows=4) + [LOCK, FOUR, EVERY]:
            for rule in RULES:
                self.check_form(program, rule)

    def test_known_programs(self):
        # each deed of a state is equally likely, not each run
        self.assertEqual(list(chances(SIGNS, "one").values()), [(1, 4), (1, 4), (1, 2)])
        self.assertEqual(list(run_counts(SIGNS, "one").values()), [1, 1, 4])
        for rule in RULES:
            for program in (EMPTY, EMPTIES, ((FENCE,) * 16,)):
                none = (((0, 0, 0),) * len(program), (0, 0, 0, 0))
                self.assertEqual([chances(program, rule), run_counts(program, rule), count_runs(program, rule)],
                                 [{none: (1, 1)}, {none: 1}, 1])
            self.assertEqual(count_runs(((FENCE,) * 3, (FENCE,) * 2), rule), 10)
        # of two puts the one that is done first is as likely as the other one
        twice = ((("put", 0, 1),), (("put", 0, 2),))
        for rule in RULES:
            self.assertEqual(set(chances(twice, rule).values()), {(1, 2)})
        # by views the second put also comes to stand ahead of the first one
        self.assertEqual([count_runs(twice, rule) for rule in RULES], [2, 6, 6, 4])

    def test_numbers_that_are_not_small(self):
        # 33 fences of four hands in any order: the last hand has only one of them
        expected = 1
        for number in range(1, 34):
            expected *= number
        for many in (14, 9, 9, 1):
            for number in range(1, many + 1):
                expected //= number
        for rule in RULES:
            self.assertEqual(count_runs(FULL, rule), expected)
            self.assertEqual(list(chances(FULL, rule).values()), [(1, 1)])

    def test_outcomes_that_do_not_come(self):
        self.assertEqual(chance_of(SIGNS, "one", UNSEEN), (0, 1))
        self.assertEqual([chance_of(MESSAGE, rule, LATE)[0] > 0 for rule in RULES], [False, False, True, False])
        self.assertEqual(chance_of(MESSAGE, "views", LATE), (0, 1))
        self.assertEqual(chance_of(EMPTIES, "lanes", (((0, 0, 0),) * 4, (0, 0, 0, 1))), (0, 1))

    def test_what_is_returned_is_new(self):
        for _ in range(2):
            for function in (chances, run_counts):
                found = function(SIGNS, "one")
                self.assertEqual(len(found), 3)
                found.clear()

    def test_errors(self):
        for program in BAD_PROGRAMS:
            for function in (chances, run_counts, count_runs):
                self.assertRaises(BadProgram, function, program, None)
            self.assertRaises(BadProgram, chance_of, program, None, None)
        for rule in BAD_RULES:
            for function in (chances, run_counts, count_runs):
                self.assertRaises(BadRule, function, HUGE, rule)
            self.assertRaises(BadRule, chance_of, HUGE, rule, None)
        for outcome in BAD_OUTCOMES:
            for rule in RULES:
                self.assertRaises(BadOutcome, chance_of, SIGNS, rule, outcome)
            self.assertRaises(BadOutcome, chance_of, HUGE, "one", outcome)

    def test_limit(self):
        for rule in RULES:
            program = ONE_MORE[rule]
            for function in (chances, run_counts, count_runs):
                self.assertRaises(TooLarge, function, program, rule)
            self.assertRaises(TooLarge, chance_of, program, rule, (((0, 0, 0),) * 3, (1, 0, 0, 0)))
            self.assertRaises(TooLarge, chance_of, program, rule, (((3, 3, 3),) * 3, (1, 0, 0, 0)))
            self.assertEqual(chance_of(FULL, rule, (((0, 0, 0),) * 4, (0, 0, 0, 0))), (1, 1))
            self.assertEqual(chance_of(FULL, rule, (((0, 0, 0),) * 4, (0, 0, 0, 1))), (0, 1))


if __name__ == "__main__":
    unittest.main()
