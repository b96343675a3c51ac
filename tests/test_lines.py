"""Programs that are as by one [20]."""

import unittest
from itertools import combinations, product

from memoryviews.errors import BadProgram, BadRule, TooLarge
from memoryviews.lines import Lined, Loose, is_as_by_one, judge_lines
from memoryviews.races import is_raceless
from memoryviews.runs import outcomes
from memoryviews.stories import Story
from memoryviews.telling import count_let, outcomes_told
from tests.cases import BAD_PROGRAMS, BAD_RULES, EMPTIES, EMPTY, EVERY, FENCE, FOUR, LOCK, LONG, MESSAGE, RULES, SIGNS
from tests.cases import STORIES_600, STORIES_601, EvidenceChecks, parts, random_programs
from tests.reference import bars, reference_circles, reference_steps, reference_stories

FIRSTS = tuple(((None, place),) for place in range(4))
NO_PUTS = Story({}, FIRSTS, ())
CIRCLE = [((0, 0), "row"), ((0, 1), "past"), ((1, 0), "row"), ((1, 1), "past")]
UNREAD = Story({(0, 1): (None, 1), (1, 1): (None, 0)},
               (((None, 0), (0, 0)), ((None, 1), (1, 0)), ((None, 2),), ((None, 3),)), ())
FENCED = ((("put", 0, 1), FENCE, ("get", 0, 1)), (("put", 1, 1), FENCE, ("get", 0, 0)))


def is_right_line(program, story, line):
    """Whether a line has all doings but the firsts, and each of the four steps leads to a later one, by the reference."""
    triple = parts(story)
    doings = [doing for doing, _ in triple[0]] + list(triple[2]) + [doing for row in triple[1] for doing in row]
    if sorted(line) != sorted({doing for doing in doings if doing[0] is not None}):
        return False
    for (one, other), words in reference_steps(program, triple).items():
        if one[0] is not None and set(words) - {"fence"} and line.index(one) >= line.index(other):
            return False
    return True


class TestLines(EvidenceChecks, unittest.TestCase):

    def check_judged(self, program, rule):
        """Judge a program, and compare with the reference; returns whether it is as by one."""
        circles = {triple: reference_circles(program, triple) for triple in reference_stories(program, rule)}
        let = {triple for triple in circles if not any(bars(program, rule, circle) for circle in circles[triple])}
        against = {triple: [circle for circle in circles[triple] if bars(program, "one", circle)] for triple in let}
        evidence = judge_lines(program, rule)
        right = not any(against.values())
        self.assertIs(is_as_by_one(program, rule), right, (program, rule))
        self.assertIsInstance(evidence, Lined if right else Loose)
        self.check_shown(evidence, program, rule)
        if right:
            self.assertEqual({parts(story) for story, _ in evidence.lines}, let)
            self.assertEqual(len(evidence.lines), len(let))
            for story, line in evidence.lines:
                self.assertTrue(is_right_line(program, story, line), (program, line))
        else:
            at = evidence.circle.index(min(evidence.circle))
            self.assertIn(evidence.circle[at:] + evidence.circle[:at], against[parts(evidence.story)])
        return right

    def test_against_reference(self):
        found = []
        for program in random_programs(30, 60, rows=2) + random_programs(31, 25, hands=(2,)) + [SIGNS, MESSAGE, FENCED]:
            for rule in RULES:
                found.append(self.check_judged(program, rule))
        self.assertGreater(found.count(True), 100)

    def test_all_short_hands(self):
        rows = (("put", 0, 1), ("put", 1, 1), ("get", 0, 0), ("get", 1, 1))
        hands = list(product(rows, repeat=2))
        found = []
        for one, other in combinations(hands, 2):
            for rule in RULES[1:]:
                found.append(self.check_judged((one, other), rule))
        self.assertGreater(found.count(False), 10)
        self.assertGreater(found.count(True), 200)

    def test_what_stands_between(self):
        between = ((), (FENCE,), (("swap", 2, 2, 1),), (("get", 2, 0),))
        found = []
        for one, other in product(between, repeat=2):
            for row, that in ((("get", 0, 1), ("get", 0, 0)), (("put", 1, 2), ("put", 0, 2)), (("put", 1, 2), ("get", 0, 0))):
                program = ((("put", 0, 1),) + one + (row,), (("put", 1, 1),) + other + (that,))
                for rule in RULES[1:]:
                    found.append(self.check_judged(program, rule))
        self.assertGreater(found.count(False), 30)
        self.assertGreater(found.count(True), 30)

    def test_three_hands(self):
        handed = ((("put", 0, 1),), (("get", 0, 0), ("put", 1, 1)), (("get", 0, 1), ("get", 1, 0)))
        self.assertEqual([self.check_judged(handed, rule) for rule in RULES], [True, True, True, True])
        passed = ((("put", 0, 1),), (("get", 0, 0), ("get", 1, 1)), (("put", 1, 1), FENCE, ("get", 1, 0)))
        self.assertEqual([self.check_judged(passed, rule) for rule in RULES], [True, True, True, False])

    def test_known_programs(self):
        for program, expected in (
            (SIGNS, [True, False, False, False]), (MESSAGE, [True, True, False, True]), (LOCK, [True, False, False, False]),
            (FOUR, [True, True, True, False]), (FENCED, [True] * 4), (EMPTY, [True] * 4), (EMPTIES, [True] * 4),
        ):
            self.assertEqual([is_as_by_one(program, rule) for rule in RULES], expected, program)
            for rule in RULES:
                self.check_shown(judge_lines(program, rule), program, rule)

    def test_by_one_all_are_as_by_one(self):
        for program in random_programs(32, 80) + [SIGNS, MESSAGE, FOUR, EVERY, LOCK]:
            evidence = judge_lines(program, "one")
            self.assertIsInstance(evidence, Lined)
            self.assertEqual(len(evidence.lines), count_let(program, "one"))
            self.assertTrue(all(is_right_line(program, story, line) for story, line in evidence.lines))

    def test_what_is_as_by_one_has_no_other_outcomes(self):
        found = 0
        for program in random_programs(33, 150, hands=(2, 2, 3)):
            for rule in RULES[1:]:
                if is_as_by_one(program, rule):
                    self.assertEqual(outcomes(program, rule), outcomes(program, "one"), program)
                    self.assertEqual(outcomes_told(program, rule), outcomes_told(program, "one"))
                    found += 1
                else:
                    self.assertIsInstance(judge_lines(program, rule), Loose)
        self.assertGreater(found, 200)

    def test_a_program_without_races_is_as_by_one(self):
        raceless = [program for program in random_programs(34, 120, hands=(2, 2, 3)) if is_raceless(program)]
        self.assertGreater(len(raceless), 10)
        for program in raceless + [((("put", 0, 1), ("swap", 0, 1, 1)), (("swap", 0, 1, 2), ("only", 0, 1, 1), ("get", 1, 0)))]:
            for rule in RULES:
                self.assertIs(is_as_by_one(program, rule), True, program)

    def test_another_order_without_another_outcome(self):
        # nobody gets what is put, so there are no other outcomes, but the puts can stand so that there is a circle
        program = ((("put", 0, 1), ("put", 1, 1)), (("put", 1, 1), ("put", 0, 1)))
        for rule, right in (("one", True), ("queues", True), ("lanes", False), ("views", False)):
            self.assertEqual(outcomes(program, rule), outcomes(program, "one"))
            self.assertIs(self.check_judged(program, rule), right)

    def test_fences_stand_in_lines_too(self):
        program = ((FENCE,), (FENCE, ("put", 0, 1)))
        for rule, many in (("one", 1), ("queues", 1), ("lanes", 1), ("views", 2)):
            lines = judge_lines(program, rule).lines
            self.assertEqual(len(lines), many)
            for story, line in lines:
                self.assertEqual(sorted(line), [(0, 0), (1, 0), (1, 1)])
                self.assertLess(line.index((1, 0)), line.index((1, 1)))
        # the order of the fences need not be kept
        story = Story({}, FIRSTS, ((1, 0), (0, 0)))
        self.check_shown(Lined([(story, [(0, 0), (1, 0)]), (Story({}, FIRSTS, ((0, 0), (1, 0))), [(0, 0), (1, 0)])]),
                         ((FENCE,), (FENCE,)), "views")

    def test_no_rows(self):
        for rule in RULES:
            self.assertEqual(judge_lines(EMPTIES, rule), Lined([(NO_PUTS, [])]))
            self.check_shown(Lined([(NO_PUTS, [])]), EMPTY, rule)

    def test_spoiled_lined(self):
        for program, rule in ((SIGNS, "one"), (MESSAGE, "queues"), (FENCED, "views")):
            evidence = judge_lines(program, rule)
            lines = evidence.lines
            self.assertGreater(len(lines), 2)
            story, line = lines[0]
            other, _ = lines[1]
            spoiled = [None, {}, tuple(lines), [], lines[1:], lines[:-1], lines + lines[:1], lines[:-1] + lines[:1],
                       lines + [(UNREAD, line)], [list(lines[0])] + lines[1:], [story] + lines[1:], [line] + lines[1:],
                       [(story,)] + lines[1:], [(story, line, line)] + lines[1:], [None] + lines[1:],
                       [(line, story)] + lines[1:], [(None, line)] + lines[1:],
                       [(Story({}, story.puts, story.fences), line)] + lines[1:],
                       [(Story(story.reads, story.puts[::-1], story.fences), line)] + lines[1:],
                       [(Story(story.reads, story.puts, ((0, 0),)), line)] + lines[1:], [(other, line)] + lines[1:]]
            wrong_lines = [None, {}, tuple(line), [], line[1:], line[:-1], line + line[:1], line[:-1] + line[:1],
                           line + [(None, 0)], [(None, 0)] + line, line + [(9, 9)], line[::-1], line + [None],
                           [list(doing) for doing in line], line[:-1] + [line[-1][0]]]
            wrong_lines += [line[:at] + [wrong] + line[at + 1:] for at in range(len(line)) for wrong in (
                None, 0, (), (0,), (bool(line[at][0]), line[at][1]), (line[at][0], bool(line[at][1])), line[at] + (0,))]
            for at in range(len(line) - 1):
                exchanged = line[:at] + [line[at + 1], line[at]] + line[at + 2:]
                if not is_right_line(program, story, exchanged):
                    wrong_lines.append(exchanged)
            spoiled += [[(story, wrong)] + lines[1:] for wrong in wrong_lines]
            spoiled = [wrong for wrong in spoiled if repr(wrong) != repr(lines)]
            self.check_spoiled(evidence, "lines", spoiled, program, rule)
            evidence.lines = lines[::-1]
            self.check_shown(evidence, program, rule)
            evidence.lines[0][1].reverse()
            self.assertFalse(evidence.shows(program, rule))

    def test_any_line_that_fits(self):
        program = ((("put", 0, 1), ("put", 1, 1)), (("put", 2, 1),))
        story = judge_lines(program, "one").lines[0][0]
        for line, right in (
            ([(0, 0), (0, 1), (1, 0)], True), ([(0, 0), (1, 0), (0, 1)], True), ([(1, 0), (0, 0), (0, 1)], True),
            ([(0, 1), (0, 0), (1, 0)], False), ([(1, 0), (0, 1), (0, 0)], False),
        ):
            for rule in RULES:
                self.assertIs(Lined([(story, line)]).shows(program, rule), right)

    def test_each_step_must_be_kept(self):
        # row, read, over and past alone, each by the last two doings of a line
        row = ((("put", 0, 1), ("put", 1, 1)),)
        read = ((("put", 0, 1),), (("get", 0, 0),))
        over = ((("put", 0, 1),), (("put", 0, 2),))
        for program, reads, puts, line in (
            (row, {}, (((None, 0), (0, 0)), ((None, 1), (0, 1))), [(0, 0), (0, 1)]),
            (read, {(1, 0): (0, 0)}, (((None, 0), (0, 0)), ((None, 1),)), [(0, 0), (1, 0)]),
            (read, {(1, 0): (None, 0)}, (((None, 0), (0, 0)), ((None, 1),)), [(1, 0), (0, 0)]),
            (over, {}, (((None, 0), (0, 0), (1, 0)), ((None, 1),)), [(0, 0), (1, 0)]),
            (over, {}, (((None, 0), (1, 0), (0, 0)), ((None, 1),)), [(1, 0), (0, 0)]),
        ):
            story = Story(reads, puts + FIRSTS[2:], ())
            for rule in RULES:
                lines = judge_lines(program, rule).lines
                rest = [pair for pair in lines if parts(pair[0]) != parts(story)]
                self.assertEqual(len(rest), len(lines) - 1)
                self.assertTrue(Lined(rest + [(story, line)]).shows(program, rule))
                self.assertFalse(Lined(rest + [(story, line[::-1])]).shows(program, rule))

    def test_spoiled_loose(self):
        evidence = judge_lines(SIGNS, "queues")
        self.assertEqual([evidence.story, sorted(evidence.circle)], [UNREAD, CIRCLE])
        circle = evidence.circle
        spoiled = [None, {}, (), [], tuple(circle), circle[:-1], circle[1:], circle + circle, circle + circle[:1],
                   circle[:1] * 4, circle[::-1], [circle[1], circle[0]] + circle[2:], [pair[0] for pair in circle],
                   [list(pair) for pair in circle]]
        for at, (doing, word) in enumerate(circle):
            for wrong in (None, (), (doing,), (doing, word, word), (doing, None), (word, doing), (doing, "read"),
                          (doing, "over"), (doing, "fence"), (doing, word.upper()), ((None, 0), word), ((9, 9), word),
                          ((bool(doing[0]), doing[1]), word), ((doing[0], bool(doing[1])), word), (list(doing), word)):
                spoiled.append(circle[:at] + [wrong] + circle[at + 1:])
        self.check_spoiled(evidence, "circle", spoiled, SIGNS, "queues")
        puts = UNREAD.puts
        stories = [Story(reads, puts, ()) for reads in (
            {}, {(0, 1): (None, 1)}, {(0, 1): (1, 0), (1, 1): (None, 0)}, {**UNREAD.reads, (0, 0): (None, 0)},
            {(0, 1): (None, 0), (1, 1): (None, 0)})]
        stories += [Story(UNREAD.reads, puts[::-1], ()), Story(UNREAD.reads, puts, ((0, 0),)), NO_PUTS, None, 1, {}, circle]
        self.check_spoiled(evidence, "story", stories, SIGNS, "queues")
        for at in range(4):
            self.check_shown(Loose(UNREAD, circle[at:] + circle[:at]), SIGNS, "lanes")
        # by one the story has this circle, but the rule does not let it
        self.assertFalse(evidence.shows(SIGNS, "one"))
        self.assertFalse(evidence.shows(MESSAGE, "queues"))
        evidence.story.reads[(0, 1)] = (1, 0)
        self.assertFalse(evidence.shows(SIGNS, "queues"))

    def test_circles_are_against_one(self):
        # a circle with a fence is none against one, although there is one in the story
        program = (SIGNS[0] + (FENCE,), SIGNS[1] + (FENCE,))
        story = Story(UNREAD.reads, UNREAD.puts, ((1, 2), (0, 2)))
        self.assertTrue(Loose(story, CIRCLE).shows(program, "views"))
        around = [((0, 0), "row"), ((0, 1), "past"), ((1, 0), "row"), ((1, 2), "fence"), ((0, 2), "row")]
        self.assertFalse(Loose(story, around).shows(program, "views"))
        self.assertFalse(Loose(story, CIRCLE).shows(program, "queues"))
        self.assertTrue(Loose(Story(UNREAD.reads, UNREAD.puts, ((0, 2), (1, 2))), CIRCLE).shows(program, "queues"))

    def test_equality_and_copies(self):
        lined, loose = Lined([(UNREAD, [(0, 0), (1, 1)])]), Loose(UNREAD, CIRCLE)
        lists = ([UNREAD, [[0, 0], [1, 1]]],)
        self.assertEqual(Lined(lists).lines, [(UNREAD, [(0, 0), (1, 1)])])
        self.check_equality(lined, Lined(lists), [
            Lined([]), Lined([(UNREAD, [(0, 0), (1, 1)])] * 2), Lined([(UNREAD, [(1, 1), (0, 0)])]),
            Lined([(UNREAD, [(False, 0), (1, 1)])]), Lined([(UNREAD, [])]), Lined([(NO_PUTS, [(0, 0), (1, 1)])]), loose, UNREAD])
        words = tuple([list(doing), word] for doing, word in CIRCLE)
        self.assertEqual(Loose(UNREAD, words).circle, CIRCLE)
        self.check_equality(loose, Loose(UNREAD, words), [
            Loose(NO_PUTS, CIRCLE), Loose(UNREAD, []), Loose(UNREAD, CIRCLE[1:] + CIRCLE[:1]), lined, UNREAD])
        story, line, circle = Story(dict(UNREAD.reads), UNREAD.puts, ()), [(0, 0), (1, 1)], list(CIRCLE)
        rows = [(story, line)]
        lined, loose = Lined(rows), Loose(story, circle)
        for given in (line, circle, rows, story.reads):
            given.clear()
        self.assertEqual([lined.lines, loose.story, loose.circle], [[(UNREAD, [(0, 0), (1, 1)])], UNREAD, CIRCLE])

    def test_what_is_returned_is_new(self):
        for _ in range(2):
            lined, loose = judge_lines(MESSAGE, "one"), judge_lines(SIGNS, "views")
            self.check_shown(lined, MESSAGE, "one")
            self.check_shown(loose, SIGNS, "views")
            lined.lines[0][1].clear()
            lined.lines[1][0].reads.clear()
            self.check_shown(judge_lines(MESSAGE, "one"), MESSAGE, "one")
            lined.lines.clear()
            loose.story.reads.clear()
            loose.circle.clear()

    def test_errors(self):
        functions = (judge_lines, is_as_by_one, Lined([]).shows, Loose(UNREAD, CIRCLE).shows)
        for function in functions:
            for program in BAD_PROGRAMS:
                self.assertRaises(BadProgram, function, program, None)
                self.assertRaises(BadProgram, function, program, "one")
            for rule in BAD_RULES:
                self.assertRaises(BadRule, function, STORIES_601, rule)

    def test_limits(self):
        functions = (judge_lines, is_as_by_one, Lined([]).shows, Loose(UNREAD, CIRCLE).shows)
        for rule in RULES:
            evidence = judge_lines(STORIES_600, rule)
            self.assertEqual(len(evidence.lines), count_let(STORIES_600, rule))
            self.check_shown(evidence, STORIES_600, rule)
            self.assertIs(Loose(UNREAD, CIRCLE).shows(STORIES_600, rule), False)
            for function in functions:
                self.assertRaises(TooLarge, function, STORIES_601, rule)
                self.assertRaises(TooLarge, function, LONG, rule)


if __name__ == "__main__":
    unittest.main()
