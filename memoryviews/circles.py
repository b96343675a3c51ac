"""Steps between the doings of a story, and circles of them."""

from memoryviews.programs import place_of


def steps_between(story):
    """The list of all steps of a story: triples of a doing, a word, and the doing that it leads to."""
    steps = row_steps(story)
    for doing in story.reads:
        steps.append((story.reads[doing], "read", doing))
        steps.extend(past_steps(story, doing))
    for row in story.puts:
        steps.extend([(row[at], "over", behind) for at in range(len(row)) for behind in row[at + 1:]])
    for at, fence in enumerate(story.fences):
        steps.extend([(fence, "fence", behind) for behind in story.fences[at + 1:]])
    return steps


def doings_of(story):
    """The ascending list of all doings of a story but the firsts."""
    putting = [doing for row in story.puts for doing in row[1:]]
    return sorted({doing for doing in putting + list(story.reads) + list(story.fences)})


def row_steps(story):
    """The steps from each doing to all later ones of the same hand."""
    doings = doings_of(story)
    return [(doing, "row", later) for doing in doings for later in doings if doing[0] == later[0] and doing < later]


def past_steps(story, doing):
    """The steps from a doing that gets to all that put behind the one that it reads."""
    source = story.reads[doing]
    for row in story.puts:
        if source in row:
            return [(doing, "past", behind) for behind in row[row.index(source) + 1:] if behind != doing]
    return []


def circle_among(steps):
    """A circle of some of these steps, None if there is none."""
    left = []
    while len(left) != len(steps):
        left = steps
        led = {target: True for _, _, target in left}
        steps = [step for step in left if step[0] in led]
    if not steps:
        return None
    # a step leads to each doing that is left, so going back must come to some doing twice
    into = {target: (doing, word) for doing, word, target in steps}
    path = [steps[0][0]]
    while into[path[-1]][0] not in path:
        path.append(into[path[-1]][0])
    begin = into[path[-1]][0]
    return [into[doing] for doing in path[path.index(begin):]][::-1]


def way_among(steps, start, end):
    """A shortest way from one doing to another one by some of these steps, None if there is none."""
    origins = {start: None}
    waiting = [start]
    while waiting and end not in origins:
        found = []
        for doing, word, target in steps:
            if doing in waiting and target not in origins:
                origins[target] = (doing, word)
                found.append(target)
        waiting = found
    if end not in origins:
        return None
    way = []
    while end != start:
        way.append(origins[end])
        end = origins[end][0]
    return way[::-1]


def place_at(program, doing):
    """The place of a doing."""
    hand, at = doing
    return at if hand is None else place_of(program[hand][at])


def is_kept(program, rule, step):
    """Whether a machine with queues or lanes keeps a step, wherever the other doings of a circle are."""
    doing, word, target = step
    if word == "read":
        return doing[0] != target[0]
    if word != "row" or program[doing[0]][doing[1]][0] not in ("put", "give"):
        return True
    row = program[target[0]][target[1]]
    if row[0] == "get":
        return False
    return rule == "queues" or row[0] not in ("put", "give") or place_of(row) == place_at(program, doing)
