"""Sections [30]."""

import unittest
from itertools import permutations

from memoryviews.errors import BadOrder, BadProgram, BadRule, TooLarge
from memoryviews.programs import is_program
from memoryviews.runs import outcomes
from memoryviews.sections import Serial, Torn, always_serial, is_serial, judge_sections, locked, serial_outcome
from memoryviews.texts import read_program
from tests.cases import ANYTHING, BAD_PROGRAMS, BAD_RULES, EMPTIES, EMPTY, FENCE, HUGE, LOCK, MESSAGE, RULES, SIGNS
from tests.cases import EvidenceChecks, changed_runs, random_programs
from tests.reference import end_of_run, reference_outcomes, reference_states, whole_runs

NONE, MISSED = (0, 0, 0), (0, 0, 1)
INSIDE = ((("put", 0, 1), ("get", 0, 1)), (("get", 0, 0), ("put", 1, 1)))
ONLY = ((("get", 0, 0), ("only", 0, 0, 1), ("put", 0, 3)), (("swap", 1, 0, 2), ("give", 1, 1)), (FENCE, ("give", 2, 0)))
BOTH = (False, True)
# programs that have just 3000 states and one more by one, if they are locked without fences
TEXT_3000 = """put 2 = 3; r0 = get 0
r1 = get 1; r1 = get 1; put 1 = 2; r1 = get 1; put 0 = 2; put 1 = 2; r0 = get 0; r1 = get 1; r1 = get 1; put 0 = 2; put 2 = 3; put 0 = 1
put 0 = 1; fence; put 2 = 3; put 2 = 3; r1 = get 1; fence; put 1 = 2
put 2 = 3; r0 = get 0; fence; put 0 = 1; put 0 = 1; put 1 = 2; put 0 = 1
"""
TEXT_3001 = """put 2 = 3; fence; r1 = get 1; r1 = get 1; put 0 = 1
put 2 = 3; r1 = get 1; r1 = get 1
fence; r0 = get 0; r1 = get 1; r0 = get 0; r1 = get 1; put 2 = 3; r0 = get 2; put 1 = 2; r0 = get 2; put 2 = 3; put 1 = 2
put 2 = 3; fence; put 0 = 1; r0 = get 0; put 0 = 1; put 1 = 2; put 0 = 1; r0 = get 2; put 0 = 1; fence
"""


def lockable(program):
    """Whether no row of a program has the place 3 or the register 2."""
    at = {"put": (1, None), "give": (1, 2), "get": (2, 1), "swap": (2, 1), "fence": (None, None), "only": (None, 1)}
    for row in [row for hand in program for row in hand]:
        place, slot = at[row[0]]
        if (place and row[place] == 3) or (slot and row[slot] == 2):
            return False
    return True


def reference_locked(program, has_fences):
    hands = []
    for rows in program:
        end = [FENCE, ("put", 3, 0)] if has_fences else [("put", 3, 0)]
        hands.append(tuple([("swap", 2, 3, 1), ("only", 2, 0, len(rows) + len(end))] + list(rows) + end))
    return tuple(hands)


def in_turn(program, hands):
    """What comes if these hands do their rows one after the other: one whole run of a hand each, on a plain memory."""
    there, held = [0, 0, 0, 0], [[0, 0, 0] for _ in program]
    for hand in hands:
        at = 0
        while at < len(program[hand]):
            row = program[hand][at]
            at += 1
            if row[0] == "only" and held[hand][row[1]] != row[2]:
                at += row[3]
            if row[0] in ("get", "swap"):
                held[hand][row[1]] = there[row[2]]
            if row[0] in ("put", "give", "swap"):
                place = row[2] if row[0] == "swap" else row[1]
                there[place] = held[hand][row[2]] if row[0] == "give" else row[-1]
    return (tuple(tuple(own) if hand in hands else MISSED for hand, own in enumerate(held)), tuple(there))


def all_orders(program):
    return [hands for many in range(len(program) + 1) for hands in permutations(range(len(program)), many)]


SMALL = [program for program in random_programs(300, 30, hands=(1, 2, 2), rows=3) if lockable(program)] + [
    SIGNS, INSIDE, MESSAGE, EMPTY, EMPTIES[:2]]


class TestSections(EvidenceChecks, unittest.TestCase):

    def test_locked(self):
        for program in SMALL + [EMPTIES, ONLY]:
            for has_fences in BOTH:
                expected = reference_locked(program, has_fences)
                self.assertEqual(locked(program, has_fences), expected)
                self.assertTrue(is_program(expected))
        plain = (("swap", 2, 3, 1), ("only", 2, 0, 2), FENCE, ("put", 3, 0))
        self.assertEqual(locked(((FENCE,),), False), (plain,))
        self.assertEqual(locked(((),), True), (plain,))
        self.assertEqual(locked(((),), False), ((("swap", 2, 3, 1), ("only", 2, 0, 1), ("put", 3, 0)),))

    def test_twelve_rows_and_thirteen(self):
        twelve, thirteen = ((FENCE,) * 12,), ((FENCE,) * 13,)
        self.assertEqual([len(locked(twelve, has_fences)[0]) for has_fences in BOTH], [15, 16])
        for rule in RULES:
            for has_fences in BOTH:
                self.assertIs(is_serial(twelve, rule, has_fences), True)
                self.assertRaises(BadProgram, locked, thirteen, has_fences)
                self.assertRaises(BadProgram, locked, SIGNS + thirteen, has_fences)
                self.assertRaises(BadProgram, is_serial, thirteen, rule, has_fences)
        self.assertRaises(BadProgram, serial_outcome, thirteen, (0,))
        self.assertEqual(serial_outcome(twelve, (0,)), ((NONE,), (0, 0, 0, 0)))

    def all_functions(self):
        """All functions that lock a program, each with arguments that come behind it."""
        return [(locked, (True,)), (serial_outcome, (None,)), (judge_sections, (None, False)), (is_serial, (None, True)),
                (Serial({}).shows, (None, False)), (Torn([]).shows, (None, True))]

    def test_place_3_and_register_2(self):
        bad = [("put", 3, 0), ("give", 3, 0), ("get", 0, 3), ("swap", 0, 3, 0), ("give", 0, 2), ("get", 2, 0), ("swap", 2, 0, 0),
               ("only", 2, 0, 1)]
        good = [("put", 2, 3), ("put", 0, 2), ("give", 2, 1), ("get", 1, 2), ("swap", 1, 2, 3), ("swap", 0, 0, 2), FENCE,
                ("only", 1, 2, 1), ("only", 0, 3, 1)]
        for function, rest in self.all_functions():
            for row in bad:
                for program in (((row, FENCE),), ((FENCE, FENCE, row, FENCE), ()), ((), (), (), (FENCE, row, FENCE))):
                    self.assertRaises(BadProgram, function, program, *rest)
        for row in good:
            self.assertEqual(locked(((row, FENCE),), False), reference_locked(((row, FENCE),), False))
        # a number of rows left out is neither
        self.assertEqual(len(locked(((("only", 0, 0, 3), FENCE, FENCE, FENCE), (("only", 0, 0, 2), FENCE, FENCE)), True)), 2)

    def test_serial_outcomes(self):
        for program in SMALL + [EMPTIES, ONLY, LOCK[:1] + ONLY, ONLY + INSIDE[:1]]:
            if lockable(program):
                for hands in all_orders(program):
                    self.assertEqual(serial_outcome(program, hands), in_turn(program, hands))
        self.assertEqual(serial_outcome(INSIDE, ()), ((MISSED, MISSED), (0, 0, 0, 0)))
        self.assertEqual(serial_outcome(INSIDE, (0, 1)), ((NONE, (1, 0, 0)), (1, 1, 0, 0)))
        self.assertEqual(serial_outcome(INSIDE, (1,)), ((MISSED, NONE), (0, 1, 0, 0)))
        self.assertEqual(serial_outcome(EMPTIES, (3, 0)), ((NONE, MISSED, MISSED, NONE), (0, 0, 0, 0)))

    def test_the_same_as_by_one(self):
        for program in SMALL:
            for has_fences in BOTH:
                by_one = outcomes(locked(program, has_fences), "one")
                self.assertTrue(set(by_one) <= {in_turn(program, hands) for hands in all_orders(program) if hands})
                for rule in ("queues", "views"):
                    self.assertEqual(outcomes(locked(program, has_fences), rule), by_one)
            self.assertEqual(outcomes(locked(program, True), "lanes"), outcomes(locked(program, True), "one"))

    def test_judging(self):
        torn = 0
        for program in SMALL + [ONLY[:2], ONLY[1:]]:
            known = {in_turn(program, hands) for hands in all_orders(program)}
            for rule in RULES:
                for has_fences in BOTH:
                    evidence = judge_sections(program, rule, has_fences)
                    self.check_shown(evidence, program, rule, has_fences)
                    found = reference_outcomes(reference_locked(program, has_fences), rule)
                    serial = set(found) <= known
                    self.assertIs(is_serial(program, rule, has_fences), serial)
                    self.assertIn(serial, (True, always_serial(rule, has_fences)))
                    if serial:
                        self.assertEqual(list(evidence.orders), found)
                        for outcome, hands in evidence.orders.items():
                            self.assertEqual(in_turn(program, hands), outcome)
                    else:
                        self.assertIsInstance(evidence, Torn)
                        end = end_of_run(reference_locked(program, has_fences), rule, evidence.run)
                        self.assertIn(end, found)
                        self.assertNotIn(end, known)
                        torn += 1
        self.assertGreater(torn, 0)

    def test_always_serial(self):
        for has_fences in BOTH:
            self.assertEqual([always_serial(rule, has_fences) for rule in RULES], [True, True, has_fences, True])
            self.assertEqual([is_serial(INSIDE, rule, has_fences) for rule in RULES], [True, True, has_fences, True])

    def test_hands_that_miss_the_lock(self):
        # all hands, some of them, but never none
        for rule in RULES:
            for has_fences in BOTH:
                keys = {tuple(held[2] for held in held_by) for held_by, _ in judge_sections(INSIDE, rule, True).orders}
                self.assertEqual(keys, {(0, 0), (0, 1), (1, 0)})
                for (held_by, there) in outcomes(locked(EMPTIES[:3], has_fences), rule):
                    self.assertIn(0, [held[2] for held in held_by])
                    self.assertEqual(there, (0, 0, 0, 0))

    def test_spoiled_serial(self):
        for rule, has_fences in (("one", False), ("views", True), ("lanes", True)):
            evidence = judge_sections(INSIDE, rule, has_fences)
            orders = evidence.orders
            self.assertEqual(len(orders), 4)
            first, last = list(orders)[0], list(orders)[-1]
            spoiled = [None, [], {}, list(orders.items()), list(orders), {**orders, ((MISSED, MISSED), (0, 0, 0, 0)): ()},
                       {**orders, None: ()}, {**orders, 5: (0,)}]
            for outcome, hands in orders.items():
                spoiled.append({other: orders[other] for other in orders if other != outcome})
                wrong = [hands[::-1] if len(hands) > 1 else (1 - hands[0],), hands + hands[:1], hands[:-1], (), list(hands), None, 0,
                         hands[:-1] + (2,), hands[:-1] + (-1,), hands[:-1] + (None,), hands[:-1] + (bool(hands[-1]),),
                         hands[:-1] + (str(hands[-1]),), {}, (hands,), hands + (2,)]
                spoiled += [{**orders, outcome: other} for other in wrong]
            marked = (((False,) + first[0][0][1:],) + first[0][1:], first[1])
            self.assertEqual(marked, first)
            spoiled.append({(marked if outcome == first else outcome): orders[outcome] for outcome in orders})
            spoiled.append({**orders, first: orders[last], last: orders[first]})
            self.check_spoiled(evidence, "orders", spoiled, INSIDE, rule, has_fences)
            evidence.orders = {outcome: orders[outcome] for outcome in list(orders)[::-1]}
            self.check_shown(evidence, INSIDE, rule, has_fences)
            self.assertFalse(evidence.shows(MESSAGE, rule, has_fences))
        self.assertFalse(judge_sections(INSIDE, "lanes", True).shows(INSIDE, "lanes", False))
        # another order with the same outcome
        alike = ((("get", 0, 0),), (("get", 0, 1),))
        evidence = judge_sections(alike, "one", False)
        both = ((NONE, NONE), (0, 0, 0, 0))
        for order in ((0, 1), (1, 0)):
            evidence.orders[both] = order
            self.check_shown(evidence, alike, "one", False)

    def test_spoiled_torn(self):
        evidence = judge_sections(INSIDE, "lanes", False)
        known = [in_turn(INSIDE, hands) for hands in all_orders(INSIDE)]
        program = locked(INSIDE, False)
        for run in changed_runs(evidence.run) + [run for run, _ in whole_runs(program, "lanes")[::60]]:
            end = end_of_run(program, "lanes", run)
            other = Torn([])
            other.run = run
            self.assertIs(other.shows(INSIDE, "lanes", False), end is not None and end not in known, run)
        for rule in RULES:
            for has_fences in BOTH:
                self.assertIs(evidence.shows(INSIDE, rule, has_fences), rule == "lanes" and not has_fences)
                # no run but that of a hand alone, and none at all
                self.assertFalse(Torn([]).shows(INSIDE, rule, has_fences))
        self.assertFalse(Serial({}).shows(INSIDE, "lanes", False))
        self.assertFalse(evidence.shows(MESSAGE, "lanes", False))

    def test_equality_and_copies(self):
        run, order, outcome = [["do", 0, None]], [1, 0], ((NONE, NONE), (1, 1, 0, 0))
        orders = {outcome: order}
        serial, torn = Serial(orders), Torn(tuple(run))
        self.assertEqual([serial.orders, torn.run], [{outcome: (1, 0)}, [("do", 0, None)]])
        self.check_equality(serial, Serial({outcome: (1, 0)}), [
            Serial({}), Serial({outcome: (0, 1)}), Serial({outcome: (True, 0)}), Serial({outcome: ()}), torn])
        self.check_equality(torn, Torn([("do", 0, None)]), [Torn([]), Torn([("do", False, None)]), serial])
        run.clear()
        order.clear()
        orders.clear()
        self.assertEqual([serial.orders, torn.run], [{outcome: (1, 0)}, [("do", 0, None)]])
        for _ in range(2):
            judge_sections(INSIDE, "lanes", False).run.clear()
            judge_sections(INSIDE, "lanes", True).orders.clear()
            for has_fences in BOTH:
                self.check_shown(judge_sections(INSIDE, "lanes", has_fences), INSIDE, "lanes", has_fences)

    def test_errors(self):
        for function, rest in self.all_functions():
            for program in BAD_PROGRAMS:
                self.assertRaises(BadProgram, function, program, *rest)
        for hands in [thing for thing in ANYTHING if thing != ()] + [
            (2,), (-1,), (0, 0), (1, 1), (0, 1, 0), (0, 1, 2), (True,), (False,), (0, True), (None,), ("0",), ((0,),), [0], [0, 1],
            (0, None), ([0],), {0: 1}, "01", (10 ** 30,),
        ]:
            self.assertRaises(BadOrder, serial_outcome, INSIDE, hands)
        self.assertRaises(BadOrder, serial_outcome, EMPTIES, (0, 1, 2, 3, 0))
        for rule in BAD_RULES:
            for has_fences in BOTH:
                self.assertRaises(BadRule, always_serial, rule, has_fences)
                for function in (judge_sections, is_serial, Serial({}).shows, Torn([]).shows):
                    self.assertRaises(BadRule, function, INSIDE, rule, has_fences)

    def check_limit(self, program, rule, has_fences, is_large):
        for function in (judge_sections, is_serial, Serial({}).shows, Torn([]).shows):
            if is_large:
                self.assertRaises(TooLarge, function, program, rule, has_fences)
            else:
                function(program, rule, has_fences)

    def test_limits(self):
        large = tuple(tuple(("put", at % 3, 1 + at % 2) for at in range(12)) for _ in range(4))
        for rule in RULES:
            for has_fences in BOTH:
                self.check_limit(large, rule, has_fences, True)
            self.assertRaises(BadProgram, judge_sections, HUGE, rule, True)
        self.assertEqual(serial_outcome(large, (0, 3)), in_turn(large, (0, 3)))
        # the locked program counts, not the program itself
        for text, many in ((TEXT_3000, 3000), (TEXT_3001, 3001)):
            program = read_program(text)
            self.assertEqual(len(reference_states(locked(program, False), "one")), many)
            self.check_limit(program, "one", False, many > 3000)
            self.assertLess(len(reference_states(program[:2], "one")), 3000)


if __name__ == "__main__":
    unittest.main()
