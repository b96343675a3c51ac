"""The examples of the interface, word for word."""

import doctest
import unittest

RUNS = """
>>> from memoryviews.runs import deeds_behind, is_seen, judge_outcome, outcome_of, outcomes, states_of
>>> program = ((("put", 0, 1), ("get", 0, 1)), (("put", 1, 1), ("get", 0, 0)))
>>> none = (((0, 0, 0), (0, 0, 0)), (1, 1, 0, 0))
>>> [[is_seen(program, rule, none) for rule in ("one", "queues", "lanes", "views")], [len(outcomes(program, rule)) for rule in ("one", "queues")]]
[[False, True, True, True], [3, 4]]
>>> run = judge_outcome(program, "queues", none).run
>>> [outcome_of(program, "queues", run) == none, len(run), deeds_behind(program, "lanes", [("do", 0, None)]), deeds_behind(program, "views", [])]
[True, 6, [('do', 0, None), ('move', 0, 0), ('do', 1, None)], [('do', 0, 1), ('do', 1, 1)]]
>>> states_of(program, "queues", [("do", 0, None)])[1]
(((1, (0, 0, 0)), (0, (0, 0, 0))), (0, 0, 0, 0), (((0, 1),), ()))
>>> states_of(program, "views", [("do", 1, 1)])[1][1:]
((((0, (0, 0, 0, 0), False),), ((0, (0, 0, 0, 0), False), (1, (0, 1, 0, 0), False)), ((0, (0, 0, 0, 0), False),), ((0, (0, 0, 0, 0), False),)), (((0, 0, 0, 0), (0, 1, 0, 0)), (0, 0, 0, 0)))
"""

ROOMS = """
>>> from memoryviews.rooms import judge_rooms, outcomes_with, room_for
>>> from memoryviews.rules import always_within, is_within, judge_within, rules_with
>>> from memoryviews.wishes import is_safe, judge_wish
>>> message = ((("put", 0, 1), ("put", 1, 1)), (("get", 0, 1), ("get", 1, 0)))
>>> late = (((0, 0, 0), (1, 0, 0)), (1, 1, 0, 0))
>>> [rules_with(message, late), is_within(message, "lanes", "views"), always_within("queues", "views"), always_within("views", "lanes")]
[['lanes'], False, True, False]
>>> [room_for(message, "lanes", late), len(outcomes_with(message, "lanes", 1)), len(outcomes_with(message, "lanes", 2)), judge_rooms(message, "queues").number]
[2, 3, 4, 0]
>>> lock = ((("put", 0, 1), ("get", 0, 1), ("only", 0, 0, 1), ("put", 2, 1)), (("put", 1, 1), ("get", 0, 0), ("only", 0, 0, 1), ("put", 2, 2)))
>>> [is_safe(lock, rule, ((0, 3), (1, 3))) for rule in ("one", "queues", "views")]
[True, False, False]
"""

SWITCHES = """
>>> from memoryviews.schemes import judge_scheme, schemes_for, with_scheme
>>> from memoryviews.switches import fewest_switches, judge_switches
>>> message = ((("put", 0, 1), ("put", 1, 1)), (("get", 0, 1), ("get", 1, 0)))
>>> late = (((0, 0, 0), (1, 0, 0)), (1, 1, 0, 0))
>>> [schemes_for(rule) for rule in ("one", "queues", "lanes", "views")]
[['puts', 'gets', 'both', 'all', 'aheads', 'behinds', 'most'], ['puts', 'gets', 'both', 'all'], ['puts', 'both', 'all'], ['all']]
>>> with_scheme(((("only", 0, 1, 2), ("put", 0, 1), ("get", 0, 0), ("get", 1, 1)),), "both")
((('only', 0, 1, 4), ('put', 0, 1), ('fence',), ('fence',), ('get', 0, 0), ('fence',), ('get', 1, 1)),)
>>> [judge_scheme("gets", "views").shows("gets", "views"), fewest_switches(message, "lanes", late), fewest_switches(message, "queues", late)]
[True, 2, None]
"""

DESKS = """
>>> from memoryviews.desks import Desk
>>> from memoryviews.logs import is_let, log_of, rules_for
>>> message = ((("put", 0, 1), ("put", 1, 1)), (("get", 0, 1), ("get", 1, 0)))
>>> log = ((("put", 0, 1),), (("put", 1, 1),), (("got", 0, 1), ("got", 1, 0)), (("got", 1, 1), ("got", 0, 0)))
>>> [rules_for(log), is_let(log, "queues"), log_of(message, "lanes", [("do", 0, None), ("do", 0, None), ("move", 0, 1), ("do", 1, None)])]
[['views'], False, ((('put', 0, 1), ('put', 1, 1)), (('got', 1, 1),))]
>>> desk = Desk(message, "lanes")
>>> for deed in [("do", 0, None), ("do", 0, None), ("move", 0, 1)]: desk.do(deed)
>>> [desk.deeds(), desk.undo(), len(desk.journal()), desk.is_over()]
[[('move', 0, 0), ('do', 1, None)], ('move', 0, 1), 2, False]
"""

STORIES = """
>>> from memoryviews.stories import Story, count_stories, story_outcome
>>> program = ((('put', 0, 1), ('get', 0, 1)), (('put', 1, 1), ('get', 0, 0)))
>>> story = Story({(0, 1): (None, 1), (1, 1): (None, 0)}, (((None, 0), (0, 0)), ((None, 1), (1, 0)), ((None, 2),), ((None, 3),)), ())
>>> [count_stories(program, 'one'), story_outcome(program, 'one', story), story.fences]
[4, (((0, 0, 0), (0, 0, 0)), (1, 1, 0, 0)), ()]
"""

LETTING = """
>>> from memoryviews.letting import is_let
>>> from memoryviews.stories import Story
>>> program = ((('put', 0, 1), ('get', 0, 1)), (('put', 1, 1), ('get', 0, 0)))
>>> story = Story({(0, 1): (None, 1), (1, 1): (None, 0)}, (((None, 0), (0, 0)), ((None, 1), (1, 0)), ((None, 2),), ((None, 3),)), ())
>>> [is_let(program, rule, story) for rule in ('one', 'queues', 'lanes', 'views')]
[False, True, True, True]
"""

TELLING = """
>>> from memoryviews.telling import Barred, count_let, is_told, judge_story, outcomes_told
>>> program = ((('put', 0, 1), ('get', 0, 1)), (('put', 1, 1), ('get', 0, 0)))
>>> nothing = (((0, 0, 0), (0, 0, 0)), (1, 1, 0, 0))
>>> [is_told(program, 'one', nothing), is_told(program, 'queues', nothing), len(outcomes_told(program, 'one')), count_let(program, 'queues')]
[False, True, 3, 4]
>>> [sorted(row[1]) for row in judge_story(program, 'one', nothing).rows]
[[((0, 0), 'row'), ((0, 1), 'past'), ((1, 0), 'row'), ((1, 1), 'past')]]
"""

RACES = """
>>> from memoryviews.races import Race, is_raceless, races_of
>>> handed = ((('put', 0, 1), ('swap', 0, 1, 1)), (('swap', 0, 1, 2), ('only', 0, 1, 1), ('get', 1, 0)))
>>> [is_raceless(handed), races_of(handed), races_of(((('put', 0, 1),), (('get', 0, 0),))), Race([], (0, 1)).shows(((('put', 0, 1),), (('get', 0, 0),)))]
[True, [], [(0, 1)], True]
"""

LINES = """
>>> from memoryviews.lines import Lined, Loose, is_as_by_one, judge_lines
>>> program = ((('put', 0, 1), ('get', 0, 1)), (('put', 1, 1), ('get', 0, 0)))
>>> [is_as_by_one(program, rule) for rule in ('one', 'queues', 'lanes', 'views')]
[True, False, False, False]
>>> [len(judge_lines(program, 'one').lines), judge_lines(program, 'views').shows(program, 'views')]
[3, True]
"""

FENCING = """
>>> from memoryviews.fencing import cheapest_fences, least_cost, with_fences
>>> program = ((('put', 0, 1), ('get', 0, 1)), (('put', 1, 1), ('get', 0, 0)))
>>> prices = {(0, 1): 3, (1, 1): 2, (0, 2): 1}
>>> [least_cost(program, rule, prices) for rule in ('one', 'queues', 'lanes', 'views')]
[0, 5, 5, 5]
>>> [cheapest_fences(program, 'queues', prices).choice, len(cheapest_fences(program, 'queues', prices).against), with_fences(program, ((1, 1),))[1]]
[((0, 1), (1, 1)), 6, (('put', 1, 1), ('fence',), ('get', 0, 0))]
"""

CHANGES = """
>>> from memoryviews.changes import exchange, is_harmless, leave_out
>>> put, get = ('put', 0, 1), ('get', 0, 1)
>>> [is_harmless(rule, put, get, False) for rule in ('one', 'queues', 'lanes', 'views')]
[False, True, True, True]
>>> [is_harmless(rule, ('fence',), put, False) for rule in ('one', 'queues', 'lanes', 'views')]
[True, True, False, False]
>>> [exchange('views', get, put).shows('views', get, put, False), leave_out('lanes', ('fence',), ('swap', 0, 0, 1)), leave_out('views', put, get).shows('views', put, get, True)]
[True, None, True]
"""

TWINS = """
>>> from memoryviews.twins import are_twins, compare
>>> one, other = ((('put', 0, 1), ('put', 1, 1)), (('get', 0, 1), ('get', 1, 0))), ((('put', 1, 1), ('put', 0, 1)), (('get', 0, 1), ('get', 1, 0)))
>>> [are_twins(one, other, rule) for rule in ('one', 'queues', 'lanes', 'views')]
[False, False, True, False]
>>> compare(one, other, 'queues').outcome
(((0, 0, 0), (1, 0, 0)), (1, 1, 0, 0))
"""

TEXTS = r"""
>>> from memoryviews.texts import program_text, read_program
>>> program = ((('put', 0, 1), ('fence',), ('get', 0, 1)), (), (('swap', 2, 1, 3), ('only', 2, 0, 1), ('give', 3, 2)))
>>> program_text(program) == 'put 0 = 1; fence; r0 = get 1\n\nr2 = swap 1 = 3; only r2 = 0: 1; give 3 = r2\n'
True
>>> read_program(program_text(program)) == program
True
"""

KNOWING = """
>>> from memoryviews.knowing import judge_knowing, least_rows, stands_of
>>> from memoryviews.turning import judge_turn, open_outcomes, turn_of
>>> message = ((("put", 0, 1), ("put", 1, 1)), (("get", 0, 1), ("get", 1, 0)))
>>> [least_rows(message, rule, 1, (1, (1, 0, 0))) for rule in ("one", "queues", "lanes", "views")]
[(2, 1), (2, 1), (2, 1), (2, 1)]
>>> [least_rows(message, rule, 1, (2, (1, 0, 0))) for rule in ("one", "lanes")]
[None, (2, 2)]
>>> [len(stands_of(message, "one", 1)), judge_knowing(message, "one", 0, (1, (0, 0, 0))).rows]
[6, (1, 0)]
>>> run = [("do", 1, None), ("do", 0, None), ("do", 1, None), ("do", 0, None)]
>>> [len(open_outcomes(message, "one", run[:many])) for many in range(5)]
[3, 2, 1, 1, 1]
>>> [turn_of(message, "one", run), judge_turn(message, "one", run).number, len(judge_turn(message, "one", run).other)]
[2, 2, 4]
"""

DEPTHS = """
>>> from memoryviews.depths import least_depth, outcomes_within
>>> from memoryviews.merging import always_narrower, is_narrower, merged, merged_outcome
>>> program = ((("put", 0, 1),), (("get", 0, 0), ("get", 1, 1)), (("put", 1, 1), ("fence",), ("get", 2, 0)))
>>> merged(program, 0, 1)
((('put', 0, 1), ('get', 0, 0), ('get', 1, 1)), (('put', 1, 1), ('fence',), ('get', 2, 0)))
>>> [[is_narrower(program, 0, 1, rule) for rule in ("one", "queues", "lanes", "views")], always_narrower("views")]
[[True, False, False, True], True]
>>> merged_outcome(program, 0, 1, (((0, 0, 0), (1, 0, 0), (0, 0, 1)), (1, 1, 0, 0)))
(((1, 0, 0), (0, 0, 1)), (1, 1, 0, 0))
>>> [least_depth(program), len(outcomes_within(((("put", 0, 1), ("put", 0, 2)), (("get", 0, 0),)), 1)), least_depth(((("put", 0, 1), ("put", 0, 2)), (("get", 0, 0),)))]
[2, 3, 1]
"""

CHANCES = """
>>> from memoryviews.chances import chance_of, chances, count_runs, run_counts
>>> from memoryviews.compiling import is_kept, judge_keeping, keeping_schemes
>>> from memoryviews.sections import always_serial, is_serial, locked, serial_outcome
>>> program = ((("put", 0, 1), ("get", 0, 1)), (("put", 1, 1), ("get", 0, 0)))
>>> none = (((0, 0, 0), (0, 0, 0)), (1, 1, 0, 0))
>>> [count_runs(program, "one"), list(chances(program, "one").values()), list(run_counts(program, "one").values()), chance_of(program, "one", none)]
[6, [(1, 4), (1, 4), (1, 2)], [1, 1, 4], (0, 1)]
>>> [keeping_schemes("lanes", "queues"), keeping_schemes("views", "lanes"), is_kept("most", "views", "queues"), judge_keeping("gets", "lanes", "views").shows("gets", "lanes", "views")]
[['puts', 'both', 'all', 'aheads', 'most'], ['all', 'behinds', 'most'], True, True]
>>> inside = ((("put", 0, 1), ("get", 0, 1)), (("get", 0, 0), ("put", 1, 1)))
>>> [[is_serial(inside, rule, False) for rule in ("one", "queues", "lanes", "views")], is_serial(inside, "lanes", True), always_serial("lanes", False)]
[[True, True, False, True], True, False]
>>> [locked((((("get", 0, 1),)),), True), serial_outcome(inside, (1, 0)), serial_outcome(inside, (0,))]
[((('swap', 2, 3, 1), ('only', 2, 0, 3), ('get', 0, 1), ('fence',), ('put', 3, 0)),), (((1, 0, 0), (0, 0, 0)), (1, 1, 0, 0)), (((0, 0, 0), (0, 0, 1)), (1, 0, 0, 0))]
"""

ATTACKS = """
>>> from memoryviews.attacks import Attack, is_calm, judge_attack, least_attack
>>> program = ((('put', 0, 1), ('get', 0, 1)), (('put', 1, 1), ('get', 0, 0)))
>>> [is_calm(program, 'queues'), least_attack(program, 'queues'), Attack([((0, 0), (0, 1)), ((1, 0), (1, 1))]).shows(program, 'queues')]
[False, 4, True]
>>> message = ((('put', 0, 1), ('put', 1, 1)), (('get', 0, 1), ('get', 1, 0)))
>>> [is_calm(message, 'queues'), is_calm(message, 'lanes'), judge_attack(message, 'queues').chains]
[True, False, {}]
"""

PARTINGS = """
>>> from memoryviews.partings import Parting, is_whole, least_parting
>>> readers = ((('get', 0, 0), ('get', 1, 1)), (('get', 0, 1), ('get', 1, 0)))
>>> four = ((('put', 0, 1),), (('put', 1, 1),)) + readers
>>> [is_whole(four), least_parting(four), is_whole(((('put', 0, 1), ('put', 1, 1)),) + readers[1:])]
[False, 6, True]
>>> Parting([((0, 0), (0, 0)), ((2, 0), (2, 1)), ((1, 0), (1, 0)), ((3, 0), (3, 1))]).shows(four)
True
"""

PARRYING = """
>>> from memoryviews.parrying import least_parry, parry
>>> program = ((('put', 0, 1), ('get', 0, 1)), (('put', 1, 1), ('get', 0, 0)))
>>> prices = {(0, 1): 3, (1, 1): 2, (0, 2): 1}
>>> [parry(program, 'queues', prices).choice, least_parry(program, 'lanes', prices), least_parry(program, 'views', {(0, 2): 1})]
[((0, 1), (1, 1)), 5, None]
"""

SPARING = """
>>> from memoryviews.sparing import Kept, fewest_fences, keeping, spare
>>> fence = ('fence',)
>>> program = ((('put', 0, 1), fence, ('get', 0, 1), fence), (fence, ('put', 1, 1), fence, ('get', 0, 0)))
>>> [spare(program, rule).fences for rule in ('queues', 'lanes', 'views')]
[((0, 1), (1, 2)), ((0, 1), (1, 2)), ((0, 1), (1, 2))]
>>> [len(spare(program, 'queues').against), fewest_fences(keeping(program, ((0, 1),)), 'queues'), keeping(program, ((1, 2),))[1]]
[5, None, (('put', 1, 1), ('fence',), ('get', 0, 0))]
"""

EXAMPLES = {
    "runs": RUNS,
    "rooms": ROOMS,
    "switches": SWITCHES,
    "desks": DESKS,
    "stories": STORIES,
    "letting": LETTING,
    "telling": TELLING,
    "races": RACES,
    "lines": LINES,
    "fencing": FENCING,
    "changes": CHANGES,
    "twins": TWINS,
    "texts": TEXTS,
    "knowing": KNOWING,
    "depths": DEPTHS,
    "chances": CHANCES,
    "attacks": ATTACKS,
    "partings": PARTINGS,
    "parrying": PARRYING,
    "sparing": SPARING,
}


class TestExamples(unittest.TestCase):

    def test_examples(self):
        for name, text in EXAMPLES.items():
            with self.subTest(module=name):
                test = doctest.DocTestParser().get_doctest(text, {}, name, None, None)
                self.assertGreater(len(test.examples), 0)
                runner = doctest.DocTestRunner(verbose=False)
                runner.run(test)
                self.assertEqual(runner.summarize(verbose=False), (0, len(test.examples)))


if __name__ == "__main__":
    unittest.main()
