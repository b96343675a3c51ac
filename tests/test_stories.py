"""Stories [16]."""

import unittest

from memoryviews.errors import BadProgram, BadRule, TooLarge
from memoryviews.stories import Story, all_stories, count_stories, story_outcome
from tests.cases import BAD_PROGRAMS, BAD_RULES, EMPTIES, EMPTY, EVERY, FENCE, LONG, MESSAGE, RULES, SIGNS, STORIES_600
from tests.cases import STORIES_601, UNSEEN, EvidenceChecks, parts, random_programs
from tests.reference import reference_stories

SWAPS = ((("swap", 0, 0, 1), FENCE), (("swap", 0, 0, 2), FENCE), (("put", 0, 3),))
FIRSTS = tuple(((None, place),) for place in range(4))
READS = {(0, 1): (None, 1), (1, 1): (None, 0)}
PUTS = (((None, 0), (0, 0)), ((None, 1), (1, 0)), ((None, 2),), ((None, 3),))


def made(triple):
    return Story(dict(triple[0]), triple[1], triple[2])


class TestStories(EvidenceChecks, unittest.TestCase):

    def test_all_stories_against_reference(self):
        for program in random_programs(21, 60) + [SIGNS, MESSAGE, EMPTY, EMPTIES, SWAPS]:
            for rule in RULES:
                stories = reference_stories(program, rule)
                self.assertEqual(count_stories(program, rule), len(stories), (program, rule))
                found = all_stories(program, rule)
                self.assertEqual({parts(story): outcome for story, outcome in found}, stories)
                self.assertEqual(len(found), len(stories))
                for story, outcome in found[:20]:
                    self.assertEqual(list(story.reads), sorted(story.reads))
                    self.assertEqual(story_outcome(program, rule, story), outcome)

    def test_stories_of_other_programs(self):
        programs = random_programs(22, 12, rows=2)
        for rule in ("one", "views"):
            stories = {program: reference_stories(program, rule) for program in programs}
            for program in programs:
                for other in programs:
                    for triple in list(stories[other])[:10]:
                        self.assertEqual(story_outcome(program, rule, made(triple)), stories[program].get(triple))

    def test_counts(self):
        self.assertEqual([count_stories(EMPTIES, rule) for rule in RULES], [1] * 4)
        self.assertEqual([count_stories(((FENCE,) * 16,) * 4, rule) for rule in RULES[:3]], [1] * 3)
        self.assertRaises(TooLarge, count_stories, ((FENCE,) * 16,) * 4, "views")
        fences = ((FENCE,) * 3, (FENCE,) * 2, (FENCE,))
        self.assertEqual([count_stories(fences, rule) for rule in RULES], [1, 1, 1, 60])
        self.assertEqual(count_stories(((FENCE,) * 16, (), (), (FENCE,)), "views"), 17)
        # swaps stand directly behind what they read, so their order tells what they read
        self.assertEqual(count_stories(((("swap", 0, 0, 1),),) * 3, "one"), 6)
        self.assertEqual(count_stories((((("swap", 0, 0, 1),) * 3),) * 2, "one"), 20)
        # a hand reads neither itself nor what comes behind
        self.assertEqual(count_stories(((("get", 0, 0), ("put", 0, 1), ("get", 0, 0)),), "one"), 2)
        self.assertRaises(TooLarge, count_stories, LONG, "one")

    def test_just_600_and_one_more(self):
        for rule in RULES:
            self.assertEqual(count_stories(STORIES_600, rule), 600)
            self.assertRaises(TooLarge, count_stories, STORIES_601, rule)
            # without the last row, which is read in five ways: 120 where the rows are done, and 1 where they are left out
            less = (STORIES_601[1][0], ("only", 0, 1, 5)) + STORIES_601[1][2:7]
            self.assertEqual(count_stories((STORIES_601[0], less), rule), 121)

    def test_many_gets_without_choice(self):
        gets = (("get", 0, 3),) * 16
        for rule in RULES:
            self.assertEqual(count_stories((gets,) * 4, rule), 1)
            # what is put there is never put, because the rows are left out
            guarded = (("get", 0, 1),) * 13 + (("only", 0, 1, 1), ("put", 3, 1))
            self.assertEqual(count_stories((gets, gets, guarded), rule), 1)

    def test_outcomes(self):
        story = Story(READS, PUTS, ())
        for rule in RULES:
            self.assertEqual(story_outcome(SIGNS, rule, story), UNSEEN)
        other = Story({(0, 1): (1, 0), (1, 1): (None, 0)}, PUTS, ())
        self.assertEqual(story_outcome(SIGNS, "one", other), (((1, 0, 0), (0, 0, 0)), (1, 1, 0, 0)))
        self.assertIs(story_outcome(EMPTY, "one", story), None)
        self.assertEqual(story_outcome(EMPTY, "one", Story({}, FIRSTS, ())), (((0, 0, 0),), (0, 0, 0, 0)))

    def test_gives_and_onlys(self):
        stories = reference_stories(EVERY, "one")
        for triple, outcome in stories.items():
            self.assertEqual(story_outcome(EVERY, "one", made(triple)), outcome)
        done = {len(triple[0]) + sum(map(len, triple[1])) + len(triple[2]) for triple in stories}
        self.assertGreater(len(done), 1)

    def test_no_stories(self):
        for reads, puts, fences in (
            ({}, PUTS, ()), ({(0, 1): (None, 1)}, PUTS, ()), ({**READS, (0, 0): (None, 0)}, PUTS, ()),
            ({**READS, (0, 1): (None, 0)}, PUTS, ()), ({**READS, (0, 1): (0, 0)}, PUTS, ()),
            ({**READS, (0, 1): (0, 1)}, PUTS, ()), ({**READS, (0, 1): (1, 1)}, PUTS, ()),
            ({**READS, (0, 1): (2, 0)}, PUTS, ()), ({**READS, (0, 1): (None, 4)}, PUTS, ()),
            ({**READS, (1, 2): (None, 0)}, PUTS, ()), ({**READS, (2, 0): (None, 0)}, PUTS, ()),
            ({**READS, (None, 0): (None, 0)}, PUTS, ()), ({**READS, (0, 1): (None, True)}, PUTS, ()),
            ({**READS, (0, 1): (True, 0)}, PUTS, ()), ({(0, True): (None, 1), (1, 1): (None, 0)}, PUTS, ()),
            ({(False, 1): (None, 1), (1, 1): (None, 0)}, PUTS, ()),
            (READS, FIRSTS, ()), (READS, PUTS[:3], ()), (READS, PUTS + (((None, 4),),), ()), (READS, PUTS[::-1], ()),
            (READS, (((0, 0), (None, 0)),) + PUTS[1:], ()), (READS, (((None, 0), (0, 0), (0, 0)),) + PUTS[1:], ()),
            (READS, (((None, 0),),) + PUTS[1:], ()), (READS, (((0, 0),),) + PUTS[1:], ()),
            (READS, (((None, 0), (1, 0)), ((None, 1), (0, 0))) + PUTS[2:], ()), (READS, ((),) + PUTS[1:], ()),
            (READS, (((None, 0), (0, 0), (0, 1)),) + PUTS[1:], ()), (READS, (((None, 0), (False, 0)),) + PUTS[1:], ()),
            (READS, (((None, False), (0, 0)),) + PUTS[1:], ()), (READS, PUTS[:3] + (((None, 3), (None, 3)),), ()),
            (READS, PUTS, ((0, 0),)), (READS, PUTS, ((None, 0),)), (READS, PUTS, ((0, 1),)),
        ):
            for rule in RULES:
                self.assertIs(story_outcome(SIGNS, rule, Story(reads, puts, fences)), None, (reads, puts, fences))

    def test_circles_of_reads(self):
        program = ((("get", 0, 0), ("give", 1, 0)), (("get", 0, 1), ("give", 0, 0)))
        puts = (((None, 0), (1, 1)), ((None, 1), (0, 1))) + FIRSTS[2:]
        self.assertIs(story_outcome(program, "one", Story({(0, 0): (1, 1), (1, 0): (0, 1)}, puts, ())), None)
        self.assertEqual(story_outcome(program, "one", Story({(0, 0): (1, 1), (1, 0): (None, 1)}, puts, ())),
                         (((0, 0, 0), (0, 0, 0)), (0, 0, 0, 0)))
        self.assertEqual(count_stories(program, "one"), 3)

    def test_swaps_stand_behind_what_they_read(self):
        reads = {(0, 0): (None, 0), (1, 0): (0, 0)}
        fences = ((0, 1), (1, 1))
        row = ((None, 0), (0, 0), (1, 0), (2, 0))
        self.assertEqual(story_outcome(SWAPS, "one", Story(reads, (row,) + FIRSTS[1:], fences)),
                         (((0, 0, 0), (1, 0, 0), (0, 0, 0)), (3, 0, 0, 0)))
        for wrong in (((None, 0), (0, 0), (2, 0), (1, 0)), ((None, 0), (2, 0), (0, 0), (1, 0)),
                      ((None, 0), (1, 0), (0, 0), (2, 0))):
            self.assertIs(story_outcome(SWAPS, "one", Story(reads, (wrong,) + FIRSTS[1:], fences)), None)
        both = {(0, 0): (None, 0), (1, 0): (None, 0)}
        self.assertIs(story_outcome(SWAPS, "one", Story(both, (row,) + FIRSTS[1:], fences)), None)
        self.assertIs(story_outcome(SWAPS, "one", Story({**reads, (0, 0): (0, 0)}, (row,) + FIRSTS[1:], fences)), None)

    def test_orders_of_fences(self):
        program = ((FENCE, FENCE), (FENCE,))
        for fences, rules in (
            (((0, 0), (0, 1), (1, 0)), RULES), (((0, 0), (1, 0), (0, 1)), ("views",)),
            (((1, 0), (0, 0), (0, 1)), ("views",)), (((0, 1), (0, 0), (1, 0)), ()), (((0, 0), (1, 0)), ()),
            (((0, 0), (0, 1), (1, 0), (1, 0)), ()), ((), ()), (((0, 0), (0, True), (1, 0)), ()),
        ):
            for rule in RULES:
                outcome = story_outcome(program, rule, Story({}, FIRSTS, fences))
                self.assertEqual(outcome is not None, rule in rules, (rule, fences))

    def test_the_current_attributes_are_judged(self):
        story = Story(READS, PUTS, ())
        story.reads[(0, 1)] = (1, 0)
        self.assertEqual(story_outcome(SIGNS, "one", story)[0], ((1, 0, 0), (0, 0, 0)))
        del story.reads[(0, 1)]
        self.assertIs(story_outcome(SIGNS, "one", story), None)
        story.reads = {(1, 1): (None, 0), (0, 1): (None, 1)}
        self.assertEqual(story_outcome(SIGNS, "one", story), UNSEEN)
        story.fences = ((0, 0),)
        self.assertIs(story_outcome(SIGNS, "one", story), None)

    def test_attributes_of_no_kind(self):
        for name, wrong in (
            ("reads", None), ("reads", []), ("reads", {(0, 1): 1, (1, 1): (None, 0)}), ("reads", {**READS, 7: (None, 0)}),
            ("reads", {(0, 1): None, (1, 1): (None, 0)}), ("reads", {(0, 1): [None, 1], (1, 1): (None, 0)}),
            ("puts", None), ("puts", list(PUTS)), ("puts", PUTS[:3] + ([(None, 3)],)), ("puts", PUTS[:3] + (None,)),
            ("puts", ((None, (0, 0)),) + PUTS[1:]), ("fences", None), ("fences", []), ("fences", {}),
        ):
            story = Story(READS, PUTS, ())
            setattr(story, name, wrong)
            self.assertIs(story_outcome(SIGNS, "one", story), None, wrong)
        for thing in (None, 1, "story", READS, (READS, PUTS, ())):
            self.assertIs(story_outcome(SIGNS, "one", thing), None)

    def test_lists_and_any_order(self):
        lists = [[list(doing) for doing in row] for row in PUTS]
        story = Story({(1, 1): [None, 0], (0, 1): [None, 1]}, lists, [[0, 2]])
        self.assertEqual([story.reads, story.puts, story.fences], [READS, PUTS, ((0, 2),)])
        self.assertEqual(list(story.reads), [(0, 1), (1, 1)])
        self.assertEqual(story, Story(READS, PUTS, ((0, 2),)))
        self.assertEqual(story_outcome(SIGNS, "one", Story(READS, lists, [])), UNSEEN)

    def test_none_is_ahead_of_all_numbers(self):
        story = Story({(1, 0): (0, 0), (0, 0): (0, 0), (None, 3): (0, 0), (0, None): (0, 0)}, PUTS, ())
        self.assertEqual(list(story.reads), [(None, 3), (0, None), (0, 0), (1, 0)])

    def test_equality_and_copies(self):
        reads = dict(READS)
        story = Story(reads, PUTS, ())
        self.check_equality(story, Story(READS, PUTS, []), [
            Story({}, PUTS, ()), Story({**READS, (0, 1): (1, 0)}, PUTS, ()), Story(READS, FIRSTS, ()),
            Story(READS, PUTS, ((0, 0),)), Story({(0, True): (None, 1), (1, 1): (None, 0)}, PUTS, ())])
        reads.clear()
        self.assertEqual(story.reads, READS)

    def test_errors(self):
        story = Story(READS, PUTS, ())
        for program in BAD_PROGRAMS:
            self.assertRaises(BadProgram, count_stories, program, None)
            self.assertRaises(BadProgram, story_outcome, program, None, story)
        for rule in BAD_RULES:
            self.assertRaises(BadRule, count_stories, LONG, rule)
            self.assertRaises(BadRule, story_outcome, LONG, rule, story)
        self.assertIs(story_outcome(LONG, "one", story), None)


if __name__ == "__main__":
    unittest.main()
