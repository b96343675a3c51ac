"""What rules let [17]."""

import unittest

from memoryviews.errors import BadProgram, BadRule
from memoryviews.letting import circle_against, is_against, is_let
from memoryviews.stories import Story, all_stories
from tests.cases import BAD_PROGRAMS, BAD_RULES, FENCE, FOUR, HUGE_FOUR, MESSAGE, RULES, SIGNS, parts, random_programs
from tests.reference import bars, reference_circles, reference_stories

FIRSTS = tuple(((None, place),) for place in range(4))


def exact_rules(program, story):
    return [rule for rule in RULES if is_let(program, rule, story)]


class TestLetting(unittest.TestCase):

    def test_against_all_circles(self):
        programs = random_programs(23, 45, rows=2) + random_programs(24, 15, hands=(2,), rows=3) + [SIGNS, MESSAGE]
        for program in programs:
            for rule in RULES:
                for triple in list(reference_stories(program, rule))[:12]:
                    story = Story(dict(triple[0]), triple[1], triple[2])
                    circles = [circle for circle in reference_circles(program, triple) if bars(program, rule, circle)]
                    self.assertIs(is_let(program, rule, story), not circles, (program, rule, triple))
                    found = circle_against(program, rule, story)
                    self.assertEqual(found is None, not circles)
                    if found is not None:
                        at = found.index(min(found))
                        self.assertIn(found[at:] + found[:at], circles)

    def test_which_circles_are_against_a_rule(self):
        for program in random_programs(25, 10, rows=2) + [SIGNS, MESSAGE]:
            for rule in RULES:
                for triple in list(reference_stories(program, rule))[:8]:
                    story = Story(dict(triple[0]), triple[1], triple[2])
                    for circle in reference_circles(program, triple):
                        for at in range(len(circle)):
                            turned = circle[at:] + circle[:at]
                            self.assertIs(is_against(program, rule, story, turned), bars(program, rule, circle))

    def test_no_story_is_not_let(self):
        story = Story({(0, 1): (None, 1)}, FIRSTS, ())
        self.assertEqual(exact_rules(SIGNS, story), [])
        self.assertEqual(exact_rules(((),), story), [])
        # a story by views, but of no other rule: the fences are not ascending
        fences = ((FENCE,), (FENCE,))
        self.assertEqual(exact_rules(fences, Story({}, FIRSTS, ((1, 0), (0, 0)))), ["views"])
        self.assertEqual(exact_rules(fences, Story({}, FIRSTS, ((0, 0), (1, 0)))), list(RULES))

    def test_both_read_nothing(self):
        puts = (((None, 0), (0, 0)), ((None, 1), (1, 0)), ((None, 2),), ((None, 3),))
        self.assertEqual(exact_rules(SIGNS, Story({(0, 1): (None, 1), (1, 1): (None, 0)}, puts, ())),
                         ["queues", "lanes", "views"])

    def test_a_later_put_is_read_before_an_earlier_one(self):
        puts = (((None, 0), (0, 0)), ((None, 1), (0, 1)), ((None, 2),), ((None, 3),))
        self.assertEqual(exact_rules(MESSAGE, Story({(1, 0): (0, 1), (1, 1): (None, 0)}, puts, ())), ["lanes"])

    def test_two_readers(self):
        puts = (((None, 0), (0, 0)), ((None, 1), (1, 0)), ((None, 2),), ((None, 3),))
        reads = {(2, 0): (0, 0), (2, 1): (None, 1), (3, 0): (1, 0), (3, 1): (None, 0)}
        self.assertEqual(exact_rules(FOUR, Story(reads, puts, ())), ["views"])

    def test_one_place_is_kept_by_all_rules(self):
        program = ((("put", 0, 1), ("put", 0, 2)), (("get", 0, 0), ("get", 1, 0)))
        for puts, reads, let in (
            (((None, 0), (0, 0), (0, 1)), ((0, 0), (0, 1)), True), (((None, 0), (0, 0), (0, 1)), ((0, 1), (0, 0)), False),
            (((None, 0), (0, 1), (0, 0)), ((0, 0), (0, 1)), False), (((None, 0), (0, 0), (0, 1)), ((0, 0), (None, 0)), False),
        ):
            story = Story({(1, 0): reads[0], (1, 1): reads[1]}, (puts,) + FIRSTS[1:], ())
            self.assertEqual(exact_rules(program, story), list(RULES) if let else [])

    def test_a_hand_reads_its_own_put_early(self):
        # each hand reads its own put, and then that the other one's is not there
        program = ((("put", 0, 1), ("get", 0, 0), ("get", 1, 1)), (("put", 1, 1), ("get", 0, 1), ("get", 1, 0)))
        puts = (((None, 0), (0, 0)), ((None, 1), (1, 0)), ((None, 2),), ((None, 3),))
        reads = {(0, 1): (0, 0), (0, 2): (None, 1), (1, 1): (1, 0), (1, 2): (None, 0)}
        self.assertEqual(exact_rules(program, Story(reads, puts, ())), ["queues", "lanes", "views"])

    def test_fences_by_views(self):
        program = ((("put", 0, 1), FENCE, ("get", 0, 1)), (("put", 1, 1), FENCE, ("get", 0, 0)))
        puts = (((None, 0), (0, 0)), ((None, 1), (1, 0)), ((None, 2),), ((None, 3),))
        for fences in (((0, 1), (1, 1)), ((1, 1), (0, 1))):
            story = Story({(0, 2): (None, 1), (1, 2): (None, 0)}, puts, fences)
            self.assertEqual(exact_rules(program, story), [])
        seen = Story({(0, 2): (None, 1), (1, 2): (0, 0)}, puts, ((1, 1), (0, 1)))
        self.assertEqual(exact_rules(program, seen), [])
        other = Story({(0, 2): (None, 1), (1, 2): (0, 0)}, puts, ((0, 1), (1, 1)))
        self.assertEqual(exact_rules(program, other), list(RULES))

    def test_a_circle_of_rows_reads_and_fences(self):
        # what stands behind a fence is read ahead of a fence that comes before it
        program = ((FENCE, ("put", 0, 1)), (("get", 0, 0), FENCE))
        puts = (((None, 0), (0, 1)),) + FIRSTS[1:]
        wrong = Story({(1, 0): (0, 1)}, puts, ((1, 1), (0, 0)))
        circle = [((0, 0), "row"), ((0, 1), "read"), ((1, 0), "row"), ((1, 1), "fence")]
        self.assertEqual(exact_rules(program, wrong), [])
        self.assertIs(is_against(program, "views", wrong, circle), True)
        for rule in RULES[:3]:
            self.assertIs(is_against(program, rule, wrong, circle), False)
        self.assertEqual(exact_rules(program, Story({(1, 0): (0, 1)}, puts, ((0, 0), (1, 1)))), list(RULES))
        self.assertEqual(exact_rules(program, Story({(1, 0): (None, 0)}, puts, ((1, 1), (0, 0)))), ["views"])

    def test_no_circles(self):
        puts = (((None, 0), (0, 0)), ((None, 1), (1, 0)), ((None, 2),), ((None, 3),))
        story = Story({(0, 1): (None, 1), (1, 1): (None, 0)}, puts, ())
        circle = [((0, 0), "row"), ((0, 1), "past"), ((1, 0), "row"), ((1, 1), "past")]
        self.assertIs(is_against(SIGNS, "one", story, circle), True)
        self.assertIs(is_against(SIGNS, "one", story, circle[2:] + circle[:2]), True)
        for wrong in ([], None, tuple(circle), circle[:2], circle[1:], circle + circle, circle[::-1], circle + [None],
                      [((0, 0), "row"), ((0, 1), "past"), ((1, 0), "row"), ((1, 1), None)],
                      [((0, 0), "row"), ((0, 1), "past"), ((1, 0), "row"), ((1, 1), ["past"])],
                      [((0, 0), "row"), ((0, 1), "past"), ((True, 0), "row"), ((1, 1), "past")],
                      [((0, 0), "row"), ((0, 1), "past"), ([1, 0], "row"), ((1, 1), "past")],
                      [((0, 0), "row"), ((0, 1), "past"), ((1, 0), "row"), (1, "past")]):
            self.assertIs(is_against(SIGNS, "one", story, wrong), False, wrong)

    def test_stories_are_not_changed(self):
        for story, _ in all_stories(SIGNS, "views"):
            before = parts(story)
            is_let(SIGNS, "views", story)
            self.assertEqual(parts(story), before)

    def test_errors(self):
        story = Story({}, FIRSTS, ())
        for program in BAD_PROGRAMS:
            self.assertRaises(BadProgram, is_let, program, None, story)
        for rule in BAD_RULES:
            self.assertRaises(BadRule, is_let, HUGE_FOUR, rule, story)
        self.assertIs(is_let(HUGE_FOUR, "one", story), False)


if __name__ == "__main__":
    unittest.main()
