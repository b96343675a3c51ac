"""Runs with as few switches as possible."""

from memoryviews.exploring import end_behind, ends_of, steps_in
from memoryviews.machines import end_of, has_ended, start_of
from memoryviews.runs import Never, explore_for
from memoryviews.values import is_number, listed, lists_all, same


class Calmest:
    """A run with as few switches as possible, their number, and floors that show that there are no fewer."""

    def __init__(self, run, number, floors):
        self.run = listed(run)
        self.number = number
        self.floors = {pair: floors[pair] for pair in floors}

    def __eq__(self, other):
        if not isinstance(other, Calmest) or not same(self.run, other.run):
            return False
        return same(self.number, other.number) and same(self.floors, other.floors)

    def shows(self, program, rule, outcome):
        """Whether the run has the outcome and so many switches, and the floors are right."""
        explore_for(program, rule, outcome)
        if not is_number(self.number) or end_behind(program, rule, self.run) != outcome:
            return False
        if count_switches(self.run) != self.number:
            return False
        return self._has_floors(program, rule, outcome)

    def _has_floors(self, program, rule, outcome):
        """Whether the floors are for just all pairs, and never higher than the switches that are needed."""
        pairs = pairs_of(program, rule)
        if not isinstance(self.floors, dict) or not lists_all(list(self.floors), pairs):
            return False
        if not all([is_number(floor) and floor >= 0 for floor in self.floors.values()]):
            return False
        if self.floors[first_pair(program, rule)] != self.number:
            return False
        if any([self.floors[pair] != 0 for pair in goals_among(program, rule, outcome, pairs)]):
            return False
        return all([self.floors[pair] <= self.floors[behind] + cost(pair, behind)
                    for pair in pairs for _, behind in pairs[pair]])


def count_switches(run):
    """The number of the deeds, all but the first one, that another hand does than the deed before."""
    return len([True for deed, behind in zip(run, run[1:]) if deed[1] != behind[1]])


def first_pair(program, rule):
    """The first state, and no hand."""
    return (start_of(program, rule), None)


def cost(pair, behind):
    """1 if a deed from one pair to the next one is a switch, otherwise 0."""
    return 1 if pair[1] is not None and pair[1] != behind[1] else 0


def pairs_of(program, rule):
    """A dict from all pairs of a state and the hand of the last deed to the deeds there, each with the pair behind."""
    pairs = {}
    waiting = [first_pair(program, rule)]
    while waiting:
        pair = waiting.pop()
        if pair not in pairs:
            steps = steps_in(program, rule, pair[0])
            pairs[pair] = [(deed, (behind, deed[1])) for deed, behind in steps]
            waiting.extend([behind for _, behind in pairs[pair]])
    return pairs


def goals_among(program, rule, outcome, pairs):
    """The list of the pairs whose state is over with an outcome."""
    over = [pair for pair in pairs if has_ended(program, rule, pair[0])]
    return [pair for pair in over if end_of(rule, pair[0]) == outcome]


def floors_to(goals, pairs):
    """A dict from all pairs that lead to a goal to the least number of switches on the way."""
    ahead = {pair: [] for pair in pairs}
    for pair in pairs:
        for _, behind in pairs[pair]:
            ahead[behind].append(pair)
    floors = {}
    near = list(goals)
    number = 0
    while near:
        far = []
        while near:
            pair = near.pop()
            if pair not in floors:
                floors[pair] = number
                near.extend([back for back in ahead[pair] if cost(back, pair) == 0])
                far.extend([back for back in ahead[pair] if cost(back, pair) == 1])
        near = far
        number += 1
    return floors


def calm_run(program, rule, pairs, floors):
    """A run along which the floors tell no more switches than there are."""
    pair = first_pair(program, rule)
    run = []
    while pairs[pair]:
        fitting = [step for step in pairs[pair] if step[1] in floors]
        floors_here = [floors[behind] + cost(pair, behind) for _, behind in fitting]
        deed, pair = fitting[floors_here.index(min(floors_here))]
        run.append(deed)
    return run


def judge_switches(program, rule, outcome):
    """A run with an outcome and as few switches as possible, or all states if there is none."""
    origins = explore_for(program, rule, outcome)
    if outcome not in ends_of(program, rule, origins):
        return Never(list(origins))
    pairs = pairs_of(program, rule)
    known = floors_to(goals_among(program, rule, outcome, pairs), pairs)
    # from the other pairs no run has the outcome, so any floor that is high enough is right there
    highest = max(list(known.values()))
    floors = {pair: known.get(pair, highest) for pair in pairs}
    return Calmest(calm_run(program, rule, pairs, known), known[first_pair(program, rule)], floors)


def fewest_switches(program, rule, outcome):
    """The least number of switches of a whole run with an outcome, None if there is no such run."""
    judged = judge_switches(program, rule, outcome)
    return judged.number if isinstance(judged, Calmest) else None
