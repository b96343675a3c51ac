"""The conventions [1], for all functions and classes that have landed."""

import inspect
import unittest
from copy import deepcopy
from importlib import import_module
from itertools import product

from memoryviews import errors
from memoryviews.stories import Story
from tests.cases import ANYTHING, HUGE, LATE, MESSAGE, ONE_MORE, SIGNS, STORIES_601

FUNCTIONS = {
    "programs": ("is_program(thing)", "places_of(program)"),
    "messages": ("together(one, other)",),
    "machines": ("first_state(program, rule)",),
    "runs": (
        "states_of(program, rule, run)", "deeds_behind(program, rule, run)", "outcome_of(program, rule, run)",
        "judge_outcome(program, rule, outcome)", "is_seen(program, rule, outcome)", "all_outcomes(program, rule)",
        "outcomes(program, rule)",
    ),
    "rules": (
        "judge_within(program, one, other)", "is_within(program, one, other)", "always_within(one, other)",
        "rules_with(program, outcome)",
    ),
    "wishes": ("judge_wish(program, rule, wish)", "is_safe(program, rule, wish)"),
    "rooms": (
        "outcomes_with(program, rule, room)", "judge_rooms(program, rule)", "least_room(program, rule)",
        "room_for(program, rule, outcome)",
    ),
    "schemes": (
        "with_scheme(program, scheme)", "judge_scheme(scheme, rule)", "is_enough(scheme, rule)", "schemes_for(rule)",
    ),
    "switches": ("judge_switches(program, rule, outcome)", "fewest_switches(program, rule, outcome)"),
    "logs": (
        "program_of(log)", "judge_log(log, rule)", "is_let(log, rule)", "rules_for(log)", "log_of(program, rule, run)",
    ),
    "stories": ("count_stories(program, rule)", "story_outcome(program, rule, story)"),
    "letting": ("is_let(program, rule, story)",),
    "telling": (
        "judge_story(program, rule, outcome)", "is_told(program, rule, outcome)", "outcomes_told(program, rule)",
        "count_let(program, rule)",
    ),
    "races": ("judge_race(program)", "is_raceless(program)", "races_of(program)"),
    "lines": ("judge_lines(program, rule)", "is_as_by_one(program, rule)"),
    "fencing": (
        "cheapest_fences(program, rule, prices)", "least_cost(program, rule, prices)", "with_fences(program, choice)",
    ),
    "changes": ("exchange(rule, one, other)", "leave_out(rule, one, other)", "is_harmless(rule, one, other, leaving)"),
    "twins": ("compare(one, other, rule)", "are_twins(one, other, rule)"),
    "texts": ("program_text(program)", "read_program(text)"),
    "knowing": (
        "judge_knowing(program, rule, hand, stand)", "least_rows(program, rule, hand, stand)",
        "stands_of(program, rule, hand)",
    ),
    "turning": (
        "open_outcomes(program, rule, run)", "judge_turn(program, rule, run)", "turn_of(program, rule, run)",
    ),
    "merging": (
        "merged(program, one, other)", "merged_outcome(program, one, other, outcome)",
        "judge_merging(program, one, other, rule)", "is_narrower(program, one, other, rule)", "always_narrower(rule)",
    ),
    "depths": ("outcomes_within(program, depth)", "judge_depth(program)", "least_depth(program)"),
    "compiling": (
        "judge_keeping(scheme, rule, goal)", "is_kept(scheme, rule, goal)", "keeping_schemes(rule, goal)",
    ),
    "sections": (
        "locked(program, has_fences)", "serial_outcome(program, hands)", "judge_sections(program, rule, has_fences)",
        "is_serial(program, rule, has_fences)", "always_serial(rule, has_fences)",
    ),
    "chances": (
        "chances(program, rule)", "run_counts(program, rule)", "count_runs(program, rule)",
        "chance_of(program, rule, outcome)",
    ),
    "attacks": ("judge_attack(program, rule)", "is_calm(program, rule)", "least_attack(program, rule)"),
    "partings": ("parting(program)", "is_whole(program)", "least_parting(program)"),
    "parrying": ("parry(program, rule, prices)", "least_parry(program, rule, prices)"),
    "sparing": ("spare(program, rule)", "fewest_fences(program, rule)", "keeping(program, choice)"),
}
CLASSES = {
    "runs": {"Seen(run)": "(program, rule, outcome)", "Never(states)": "(program, rule, outcome)",
             "Outcomes(runs, states)": "(program, rule)"},
    "rules": {"Within(runs)": "(program, one, other)", "Beyond(run, states)": "(program, one, other)"},
    "wishes": {"Safe(states)": "(program, rule, wish)", "Broken(run)": "(program, rule, wish)"},
    "rooms": {"Roomy(number, lost)": "(program, rule)"},
    "schemes": {"Enough()": "(scheme, rule)", "Against(program, run)": "(scheme, rule)"},
    "switches": {"Calmest(run, number, floors)": "(program, rule, outcome)"},
    "logs": {"Let(run)": "(log, rule)", "Unlet(states)": "(log, rule)"},
    "telling": {"Told(story)": "(program, rule, outcome)", "Barred(rows)": "(program, rule, outcome)"},
    "races": {"Race(run, hands)": "(program)", "Raceless(states)": "(program)"},
    "lines": {"Lined(lines)": "(program, rule)", "Loose(story, circle)": "(program, rule)"},
    "fencing": {"Cheapest(choice, lines, against)": "(program, rule, prices)",
                "Unfenced(against)": "(program, rule, prices)"},
    "changes": {"Harm(program, at, outcome)": "(rule, one, other, leaving)"},
    "twins": {"Parted(outcome, which, run)": "(one, other, rule)"},
    "knowing": {"Known(rows, runs)": "(program, rule, hand, stand)", "NoStand(states)": "(program, rule, hand, stand)"},
    "turning": {"Turn(number, other, states)": "(program, rule, run)"},
    "merging": {"Narrower(runs)": "(program, one, other, rule)", "Wider(run, states)": "(program, one, other, rule)"},
    "depths": {"Deep(number, lost)": "(program)"},
    "compiling": {"Kept()": "(scheme, rule, goal)", "Leaked(program, run)": "(scheme, rule, goal)"},
    "sections": {"Serial(orders)": "(program, rule, has_fences)", "Torn(run)": "(program, rule, has_fences)"},
    "attacks": {"Attack(stretches)": "(program, rule)", "Calm(chains)": "(program, rule)"},
    "partings": {"Parting(stretches)": "(program)"},
    "parrying": {"Parried(choice, against)": "(program, rule, prices)", "Unparried(against)": "(program, rule, prices)"},
    "sparing": {"Kept(fences, against)": "(program, rule)", "Unkept(stretches)": "(program, rule)"},
}
DESK = {
    "state": "(self)", "deeds": "(self)", "journal": "(self)", "is_over": "(self)", "outcome": "(self)",
    "do": "(self, deed)", "undo": "(self)", "branch": "(self)", "attempt": "(self, work)",
}
STORY = Story({(0, 1): (None, 1), (1, 1): (None, 0)},
              (((None, 0), (0, 0)), ((None, 1), (1, 0)), ((None, 2),), ((None, 3),)), ())
# what can be given for each attribute, so that an object of each class can be made
ATTRIBUTES = {
    "run": [("do", 0, None)], "states": [(((0, (0, 0, 0)),), (0, 0, 0, 0), None)], "runs": {1: [("do", 0, None)]},
    "number": 3, "lost": {0: [("do", 0, None)]}, "program": MESSAGE, "floors": {(1, None): 0}, "story": STORY,
    "rows": [(STORY, [((0, 0), "row"), ((0, 1), "past")])], "hands": (0, 1), "lines": [(STORY, [(0, 0), (0, 1)])],
    "circle": [((0, 0), "row"), ((0, 1), "past")], "choice": ((0, 1),),
    "against": {(): (STORY, [((0, 0), "row"), ((0, 1), "past")])}, "at": 0, "outcome": LATE, "which": 1,
    "other": [("do", 1, None)], "orders": {LATE: (1, 0)}, "stretches": [((0, 0), (0, 1)), ((1, 0), (1, 1))],
    "chains": {((0, 0), (0, 1)): [((0, 1), (0,)), ((1, 1), (0, 1))]}, "fences": ((0, 1), (1, 2)),
}
# attributes that are of another kind in some modules
OTHER_ATTRIBUTES = {
    "knowing": {"rows": (0, 1), "runs": ([("do", 0, None)], [])},
    "parrying": {"against": {(): [((0, 0), (0, 1)), ((1, 0), (1, 1))]}},
    "sparing": {"against": {(): [((0, 0), (0, 1)), ((1, 0), (1, 1))]}},
}
LOG = ((("put", 0, 1), ("got", 1, 0)), (("put", 1, 1), ("got", 0, 0)))
# for each kind of argument a good one, and the error that a wrong one raises
KINDS = {
    "program": (SIGNS, errors.BadProgram), "rule": ("queues", errors.BadRule), "one": ("queues", errors.BadRule),
    "other": ("lanes", errors.BadRule), "run": ([("do", 0, None)], errors.BadRun), "log": (LOG, errors.BadLog),
    "outcome": (LATE, errors.BadOutcome), "wish": (((0, 0), (1, 0)), errors.BadWish), "room": (1, errors.BadRoom),
    "scheme": ("puts", errors.BadScheme), "story": (STORY, None), "thing": (SIGNS, None), "leaving": (False, None),
    "prices": ({(0, 1): 3}, errors.BadPrices), "row": (("put", 0, 1), errors.BadRows), "text": ("fence\n", errors.BadText),
    "hand": (0, errors.BadHand), "behind": (1, errors.BadHand), "stand": ((1, (0, 0, 0)), errors.BadStand),
    "whole": ([("do", 0, None)] * 2 + [("move", 0)] + [("do", 1, None)] * 2 + [("move", 1)], errors.BadRun),
    "apart": (MESSAGE, errors.BadProgram), "depth": (2, errors.BadDepth), "goal": ("one", errors.BadRule),
    "has_fences": (True, None), "hands": ((1, 0), errors.BadOrder),
}
# arguments that are of another kind than their names tell
OTHER_KINDS = {
    "changes": {"one": "row", "other": "row"}, "twins": {"one": "program", "other": "program"},
    "merging": {"program": "apart", "one": "hand", "other": "behind"},
}
WHOLE = ("judge_turn", "turn_of", "shows")
# functions that are called with right arguments only
UNCHECKED = ("together", "with_fences", "keeping")
# modules that have conditions which the large programs do not fulfill
CONDITIONED = ("schemes", "merging", "sections", "parrying")


def split(signature):
    """The name and the arguments of a listed function."""
    name, rest = signature.rstrip(")").split("(")
    return name, [part for part in rest.split(", ") if part]


def kinds_of(module, function, arguments):
    """The kinds of arguments of a function of a module."""
    others = OTHER_KINDS.get(module, {})
    if module == "turning" and function in WHOLE:
        others = {"run": "whole"}
    return [others.get(name, name) for name in arguments]


def all_functions():
    """All listed functions with the kinds of their arguments, and `shows` of an object of each class."""
    found = []
    for module, signatures in FUNCTIONS.items():
        for signature in signatures:
            name, arguments = split(signature)
            if name not in UNCHECKED:
                found.append((getattr(import_module("memoryviews." + module), name), kinds_of(module, name, arguments)))
    for module, classes in CLASSES.items():
        for signature, shows in classes.items():
            found.append((made(module, signature).shows, kinds_of(module, "shows", split(shows)[1])))
    return found


def attributes_for(module, attributes):
    """What can be given for some attributes of a module, as a dict."""
    return deepcopy({part: OTHER_ATTRIBUTES.get(module, {}).get(part, ATTRIBUTES[part]) for part in attributes})


def made(module, signature):
    name, attributes = split(signature)
    return getattr(import_module("memoryviews." + module), name)(*attributes_for(module, attributes).values())


def is_good(kind, thing):
    """Whether one of the values in ANYTHING is right for an argument of this kind."""
    if type(thing) is int:
        return kind in ("thing", "story", "leaving", "has_fences") or (
            thing in (0, 1) and kind in ("room", "hand", "behind")) or (thing == 1 and kind == "depth")
    return kind in ("thing", "story", "leaving", "has_fences") or (
        isinstance(thing, (list, tuple)) and kind in ("run", "whole")) or (kind == "hands" and thing == ())


class TestInterface(unittest.TestCase):

    def test_functions(self):
        for module, signatures in FUNCTIONS.items():
            for signature in signatures:
                name, arguments = split(signature)
                function = getattr(import_module("memoryviews." + module), name)
                self.assertEqual(function.__module__, "memoryviews." + module)
                self.assertEqual(list(inspect.signature(function).parameters), arguments)

    def test_classes(self):
        for module, classes in CLASSES.items():
            for signature, shows in classes.items():
                name, attributes = split(signature)
                kind = getattr(import_module("memoryviews." + module), name)
                self.assertEqual(kind.__module__, "memoryviews." + module)
                self.assertEqual(list(inspect.signature(kind).parameters), attributes)
                self.assertIn("shows", kind.__dict__)
                self.assertEqual(list(inspect.signature(kind.shows).parameters), ["self"] + split(shows)[1])
                evidence = made(module, signature)
                self.assertEqual(sorted(evidence.__dict__), sorted(attributes))
                for attribute, thing in attributes_for(module, attributes).items():
                    self.assertEqual(getattr(evidence, attribute), thing)

    def test_desks_and_stories(self):
        desk = getattr(import_module("memoryviews.desks"), "Desk")
        self.assertEqual(list(inspect.signature(desk).parameters), ["program", "rule"])
        for name, signature in DESK.items():
            self.assertEqual(str(inspect.signature(desk.__dict__[name])), signature)
        self.assertEqual([desk(SIGNS, "one").program, desk(SIGNS, "one").rule], [SIGNS, "one"])
        self.assertEqual(list(inspect.signature(Story).parameters), ["reads", "puts", "fences"])
        self.assertEqual(sorted(STORY.__dict__), ["fences", "puts", "reads"])


class TestWrongArguments(unittest.TestCase):

    def test_each_wrong_argument(self):
        for function, arguments in all_functions():
            for at, kind in enumerate(arguments):
                error = KINDS[kind][1]
                for wrong in [] if error is None else ANYTHING:
                    if not is_good(kind, wrong):
                        given = [KINDS[name][0] for name in arguments]
                        given[at] = wrong
                        before = repr(given)
                        self.assertRaises(error, function, *given)
                        self.assertEqual(repr(given), before)

    def test_two_wrong_arguments(self):
        for function, arguments in all_functions():
            for one, two in product(range(len(arguments)), repeat=2):
                if one < two and KINDS[arguments[one]][1] is not None:
                    for wrong in (None, True, "wrong", ["wrong"], {}):
                        given = [KINDS[name][0] for name in arguments]
                        given[one] = given[two] = wrong
                        if not is_good(arguments[one], wrong):
                            self.assertRaises(KINDS[arguments[one]][1], function, *given)

    def test_wrong_arguments_come_before_what_is_too_large(self):
        for function, arguments in all_functions():
            module = function.__module__.split(".")[1]
            for program in (HUGE, STORIES_601, ONE_MORE["queues"]):
                for at, kind in enumerate(arguments):
                    error = KINDS[kind][1]
                    if kind not in ("program", "log") and error is not None and module not in CONDITIONED:
                        given = [program if part == "program" else KINDS[part][0] for part in arguments]
                        given[at] = None
                        if len(program) == 2 or kind in ("rule", "one", "other", "goal", "scheme"):
                            self.assertRaises(error, function, *given)

    def test_one_by_one(self):
        # the rule is none for rooms, although it is one
        for name in ("outcomes_with", "judge_rooms", "least_room", "room_for"):
            function = getattr(import_module("memoryviews.rooms"), name)
            rest = [LATE] if name == "room_for" else [None] if name == "outcomes_with" else []
            for rule in ("one", "views"):
                self.assertRaises(errors.BadRule, function, MESSAGE, rule, *rest)

    def test_arguments_are_not_changed(self):
        for function, arguments in all_functions():
            given = [deepcopy(KINDS[name][0]) for name in arguments]
            before = deepcopy(given)
            try:
                function(*given)
            except errors.NotOver:
                self.assertEqual(function.__name__, "outcome_of")
            self.assertEqual(given, before)

    def test_twice_the_same(self):
        for function, arguments in all_functions():
            given = [KINDS[name][0] for name in arguments]
            if function.__name__ != "outcome_of":
                first, second = function(*given), function(*given)
                self.assertEqual(first, second)
                if isinstance(first, (list, dict)) or hasattr(first, "shows"):
                    self.assertIsNot(first, second)


class TestEquality(unittest.TestCase):

    def test_same_class_and_attributes(self):
        for module, classes in CLASSES.items():
            for signature in classes:
                one, other = made(module, signature), made(module, signature)
                self.assertIs(one == other, True)
                self.assertIs(one != other, False)
                for attribute in split(signature)[1]:
                    changed = made(module, signature)
                    setattr(changed, attribute, None)
                    self.assertIs(one == changed, False)
                    self.assertIs(one != changed, True)
                    self.assertIs(changed == one, False)

    def test_other_classes(self):
        made_ones = [made(module, signature) for module, classes in CLASSES.items() for signature in classes] + [STORY]
        for at, one in enumerate(made_ones):
            for to, other in enumerate(made_ones):
                self.assertIs(one == other, at == to)
                self.assertIs(one != other, at != to)

    def test_attributes_are_copies(self):
        for module, classes in CLASSES.items():
            for signature in classes:
                name, attributes = split(signature)
                kind = getattr(import_module("memoryviews." + module), name)
                given = list(attributes_for(module, attributes).values())
                evidence = kind(*given)
                for attribute, thing in zip(attributes, given):
                    if isinstance(thing, (list, dict)):
                        thing.clear()
                    if isinstance(thing, Story):
                        thing.reads.clear()
                self.assertEqual(evidence, made(module, signature))

    def test_lists_within_are_copies(self):
        for module, signature, attribute in (
            ("runs", "Outcomes(runs, states)", "runs"), ("rules", "Within(runs)", "runs"),
            ("rooms", "Roomy(number, lost)", "lost"), ("telling", "Barred(rows)", "rows"),
            ("lines", "Lined(lines)", "lines"), ("fencing", "Cheapest(choice, lines, against)", "lines"),
            ("fencing", "Cheapest(choice, lines, against)", "against"), ("fencing", "Unfenced(against)", "against"),
            ("merging", "Narrower(runs)", "runs"), ("depths", "Deep(number, lost)", "lost"),
            ("attacks", "Calm(chains)", "chains"), ("parrying", "Parried(choice, against)", "against"),
            ("parrying", "Unparried(against)", "against"), ("sparing", "Kept(fences, against)", "against"),
        ):
            name, attributes = split(signature)
            kind = getattr(import_module("memoryviews." + module), name)
            given = attributes_for(module, attributes)
            evidence = kind(*given.values())
            if module in ("telling", "lines", "fencing"):
                story, things = given[attribute][() if attribute == "against" else 0]
                story.reads.clear()
                things.clear()
            else:
                next(iter(given[attribute].values())).clear()
            self.assertEqual(evidence, made(module, signature))


if __name__ == "__main__":
    unittest.main()
