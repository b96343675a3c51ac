"""Outcomes told by stories [18], and that they are those of the runs [17]."""

import unittest

from memoryviews.errors import BadOutcome, BadProgram, BadRule, TooLarge
from memoryviews.letting import is_let
from memoryviews.runs import outcomes
from memoryviews.stories import Story, story_outcome
from memoryviews.telling import Barred, Told, count_let, is_told, judge_story, outcomes_told
from tests.cases import BAD_OUTCOMES, BAD_PROGRAMS, BAD_RULES, EMPTIES, EMPTY, EVERY, FOUR, LATE, LONG, MESSAGE, RULES
from tests.cases import SIGNS, STORIES_600, STORIES_601, UNSEEN, EvidenceChecks, parts, random_programs
from tests.reference import bars, reference_circles, reference_stories

ROW = ((("put", 0, 1), ("get", 0, 1)),)
STORY = Story({(0, 1): (None, 1)}, (((None, 0), (0, 0)), ((None, 1),), ((None, 2),), ((None, 3),)), ())
CIRCLE = [((0, 0), "row"), ((0, 1), "past")]


class TestTelling(EvidenceChecks, unittest.TestCase):

    def test_the_outcomes_are_those_of_the_runs(self):
        compared = 0
        for program in random_programs(26, 150) + [SIGNS, MESSAGE, FOUR, EVERY, EMPTY, EMPTIES]:
            for rule in RULES:
                try:
                    told = outcomes_told(program, rule)
                except TooLarge:
                    continue
                self.assertEqual(told, outcomes(program, rule), (program, rule))
                self.assertGreaterEqual(count_let(program, rule), len(told))
                compared += 1
        self.assertGreater(compared, 500)

    def test_against_reference(self):
        for program in random_programs(27, 25, rows=2) + [SIGNS, MESSAGE]:
            for rule in RULES:
                stories = reference_stories(program, rule)
                barred = {triple: any(bars(program, rule, circle) for circle in reference_circles(program, triple))
                          for triple in stories}
                self.assertEqual(count_let(program, rule), list(barred.values()).count(False))
                for outcome in set(stories.values()):
                    triples = [triple for triple in stories if stories[triple] == outcome]
                    told = not all(barred[triple] for triple in triples)
                    evidence = judge_story(program, rule, outcome)
                    self.assertIs(isinstance(evidence, Told), told)
                    self.assertIs(is_told(program, rule, outcome), told)
                    self.check_shown(evidence, program, rule, outcome)
                    if told:
                        self.assertIs(is_let(program, rule, evidence.story), True)
                        self.assertEqual(story_outcome(program, rule, evidence.story), outcome)
                    else:
                        self.assertEqual({parts(story) for story, _ in evidence.rows}, set(triples))
                        self.assertEqual(len(evidence.rows), len(triples))

    def test_an_outcome_of_no_story(self):
        outcome = (((3, 0, 0), (0, 0, 0)), (1, 1, 0, 0))
        for rule in RULES:
            evidence = judge_story(SIGNS, rule, outcome)
            self.assertEqual(evidence, Barred([]))
            self.check_shown(evidence, SIGNS, rule, outcome)
            self.assertIs(is_told(SIGNS, rule, outcome), False)

    def test_no_rows(self):
        outcome = (((0, 0, 0),) * 4, (0, 0, 0, 0))
        for rule in RULES:
            self.assertEqual(outcomes_told(EMPTIES, rule), [outcome])
            self.assertEqual(count_let(EMPTIES, rule), 1)
            self.assertEqual(judge_story(EMPTIES, rule, outcome).story.reads, {})

    def test_known_programs(self):
        self.assertEqual([is_told(SIGNS, rule, UNSEEN) for rule in RULES], [False, True, True, True])
        self.assertEqual([is_told(MESSAGE, rule, LATE) for rule in RULES], [False, False, True, False])
        read = (((0, 0, 0), (0, 0, 0), (1, 0, 0), (1, 0, 0)), (1, 1, 0, 0))
        self.assertEqual([is_told(FOUR, rule, read) for rule in RULES], [False, False, False, True])

    def test_spoiled_told(self):
        evidence = judge_story(SIGNS, "queues", UNSEEN)
        story = evidence.story
        others = [Story(reads, story.puts, story.fences) for reads in (
            {}, {(0, 1): (None, 1)}, {(0, 1): (1, 0), (1, 1): (None, 0)}, {**story.reads, (0, 0): (None, 0)})]
        others += [Story(story.reads, story.puts[::-1], ()), Story(story.reads, story.puts, ((0, 0),)), None, 1, {}]
        self.check_spoiled(evidence, "story", others, SIGNS, "queues", UNSEEN)
        self.assertFalse(evidence.shows(SIGNS, "one", UNSEEN))
        self.assertFalse(evidence.shows(SIGNS, "queues", (((1, 0, 0), (1, 0, 0)), (1, 1, 0, 0))))
        evidence.story.reads[(0, 1)] = (1, 0)
        self.assertFalse(evidence.shows(SIGNS, "queues", UNSEEN))

    def test_spoiled_barred(self):
        program = (MESSAGE[0], MESSAGE[1], (("put", 0, 1),))
        outcome = (((0, 0, 0), (1, 0, 0), (0, 0, 0)), (1, 1, 0, 0))
        evidence = judge_story(program, "queues", outcome)
        rows = evidence.rows
        self.assertEqual(len(rows), 2)
        (one, circle), (two, other) = rows
        spoiled = [[], rows[:1], rows[1:], rows + rows[:1], [rows[0], rows[0]], None, tuple(rows), {},
                   [rows[0], (two, [])], [rows[0], (two, other[:2])], [rows[0], (two, other + other)],
                   [rows[0], (two, None)], [rows[0], two], [rows[0], (two,)], [rows[0], None], [rows[0], (one, other)],
                   [rows[0], (None, other)], [rows[0], [two, other]], [rows[0], (two, tuple(other))],
                   [rows[0], (two, other[::-1])], [rows[0], (Story({}, two.puts, ()), other)]]
        for at, (doing, word) in enumerate(other):
            for wrong in (((9, 9), word), (doing, "fence"), (doing, "over" if word != "over" else "read"), (doing, None),
                          ((doing[0], bool(doing[1])), word), None, (doing,), [doing, word]):
                spoiled.append([rows[0], (two, other[:at] + [wrong] + other[at + 1:])])
        self.check_spoiled(evidence, "rows", spoiled, program, "queues", outcome)
        evidence.rows = [(two, other[1:] + other[:1]), (one, circle)]
        self.check_shown(evidence, program, "queues", outcome)
        self.assertFalse(evidence.shows(program, "lanes", outcome))

    def test_circles_of_another_rule(self):
        rows = judge_story(SIGNS, "one", UNSEEN).rows
        self.assertEqual(len(rows), 1)
        self.assertTrue(Barred(rows).shows(SIGNS, "one", UNSEEN))
        for rule in RULES[1:]:
            self.assertFalse(Barred(rows).shows(SIGNS, rule, UNSEEN))

    def test_equality_and_copies(self):
        told = Told(STORY)
        barred = Barred([(STORY, CIRCLE)])
        reads = dict(STORY.reads)
        self.check_equality(told, Told(Story(reads, STORY.puts, [])), [
            Told(Story({}, STORY.puts, ())), Told(Story(reads, STORY.puts, ((0, 0),))), barred, STORY])
        lists = ([STORY, [[[0, 0], "row"], [[0, 1], "past"]]],)
        self.assertEqual(Barred(lists).rows, [(STORY, CIRCLE)])
        self.check_equality(barred, Barred(lists), [
            Barred([]), Barred([(STORY, CIRCLE)] * 2), Barred([(STORY, CIRCLE[:1])]),
            Barred([(STORY, [((0, False), "row"), ((0, 1), "past")])]),
            Barred([(Story({}, STORY.puts, ()), CIRCLE)]), told])
        circle, story = list(CIRCLE), Story(reads, STORY.puts, ())
        rows = [(story, circle)]
        told, barred = Told(story), Barred(rows)
        circle.clear()
        rows.clear()
        story.reads.clear()
        self.assertEqual([told.story, barred.rows], [STORY, [(STORY, CIRCLE)]])

    def test_what_is_returned_is_new(self):
        for _ in range(2):
            told = judge_story(SIGNS, "queues", UNSEEN)
            self.check_shown(told, SIGNS, "queues", UNSEEN)
            told.story.reads.clear()
            barred = judge_story(SIGNS, "one", UNSEEN)
            self.check_shown(barred, SIGNS, "one", UNSEEN)
            barred.rows[0][0].reads.clear()
            barred.rows[0][1].clear()
            found = outcomes_told(SIGNS, "one")
            self.assertEqual(len(found), 3)
            found.clear()

    def test_errors(self):
        for program in BAD_PROGRAMS:
            for function in (judge_story, is_told, Told(STORY).shows, Barred([]).shows):
                self.assertRaises(BadProgram, function, program, None, None)
            for function in (outcomes_told, count_let):
                self.assertRaises(BadProgram, function, program, None)
        for rule in BAD_RULES:
            for function in (judge_story, is_told, Told(STORY).shows, Barred([]).shows):
                self.assertRaises(BadRule, function, STORIES_601, rule, None)
            for function in (outcomes_told, count_let):
                self.assertRaises(BadRule, function, STORIES_601, rule)
        for outcome in BAD_OUTCOMES:
            for function in (judge_story, is_told, Told(STORY).shows, Barred([]).shows):
                self.assertRaises(BadOutcome, function, STORIES_601, "one", outcome)

    def test_limits(self):
        outcome = (((0, 0, 0), (0, 0, 0)), (1, 0, 0, 0))
        for rule in RULES:
            self.assertEqual(outcomes_told(STORIES_600, rule), outcomes(STORIES_600, rule))
            evidence = judge_story(STORIES_600, rule, (((0, 0, 0), (3, 2, 0)), (1, 0, 0, 0)))
            self.assertEqual(len(evidence.rows), 12)
            self.check_shown(evidence, STORIES_600, rule, (((0, 0, 0), (3, 2, 0)), (1, 0, 0, 0)))
            for function in (judge_story, is_told, Told(STORY).shows, Barred([]).shows):
                self.assertRaises(TooLarge, function, STORIES_601, rule, outcome)
            for function in (outcomes_told, count_let):
                self.assertRaises(TooLarge, function, STORIES_601, rule)
                self.assertRaises(TooLarge, function, LONG, rule)


if __name__ == "__main__":
    unittest.main()
