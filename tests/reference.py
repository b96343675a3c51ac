"""A second machine for the tests, written another way: with messages that are objects, and with sets of states.

It shares no code with the package, so that a fault in the one is seen by the other.
"""

from copy import deepcopy
from itertools import combinations, permutations, product


class Message:
    def __init__(self, value, tied):
        self.value, self.tied, self.view = value, tied, None


class Machine:
    """A mutable machine; `name` gives the state as the document writes it."""

    def __init__(self, program, rule, room=None, depth=None):
        self.program, self.rule, self.room, self.depth = program, rule, room, depth
        self.at = [0] * len(program)
        self.held = [[0, 0, 0] for _ in program]
        self.there = [0] * 4
        self.queues = [[] for _ in program]
        self.rows = [[Message(0, False)] for _ in range(4)]
        for row in self.rows:
            row[0].view = [other[0] for other in self.rows]
        self.views = [[row[0] for row in self.rows] for _ in program]
        self.fences = [row[0] for row in self.rows]

    def number(self, view):
        return tuple(row.index(message) for row, message in zip(self.rows, view))

    def name(self):
        stands = tuple((at, tuple(held)) for at, held in zip(self.at, self.held))
        if self.rule == "one":
            return (stands, tuple(self.there), None)
        if self.rule != "views":
            return (stands, tuple(self.there), tuple(tuple(queue) for queue in self.queues))
        rows = tuple(tuple((m.value, self.number(m.view), m.tied) for m in row) for row in self.rows)
        return (stands, rows, (tuple(self.number(view) for view in self.views), self.number(self.fences)))

    def over(self):
        return all(at == len(rows) for at, rows in zip(self.at, self.program)) and not any(self.queues)

    def outcome(self):
        there = tuple(self.there)
        if self.rule == "views":
            there = tuple(row[-1].value for row in self.rows)
        return (tuple(tuple(held) for held in self.held), there)

    def deeds(self):
        out = []
        for hand, rows in enumerate(self.program):
            if self.at[hand] < len(rows):
                out += [("do", hand, way) for way in self.ways(hand, rows[self.at[hand]])]
            if self.rule == "queues" and self.queues[hand]:
                out.append(("move", hand))
            if self.rule == "lanes":
                out += [("move", hand, place) for place in range(4) if any(p == place for p, _ in self.queues[hand])]
        return out

    def ways(self, hand, row):
        word = row[0]
        if self.rule == "views" and word in ("put", "give", "get", "swap"):
            place = row[1] if word in ("put", "give") else row[2]
            messages = self.rows[place]
            seen = messages.index(self.views[hand][place])
            ends = [at for at in range(len(messages)) if at >= seen]
            if self.depth is not None:
                ends = [at for at in ends if messages[at] in messages[-self.depth:]]
            if word == "get":
                return ends
            if word == "swap":
                return [at for at in ends if at + 1 == len(messages) or messages[at + 1].tied is False]
            ends = [at for at in range(len(messages) + 1) if at > seen]
            return [at for at in ends if at == len(messages) or messages[at].tied is False]
        if self.rule in ("queues", "lanes"):
            if word in ("fence", "swap") and self.queues[hand]:
                return []
            if word in ("put", "give") and self.room and len(self.queues[hand]) >= self.room:
                return []
        return [None]

    def do(self, deed):
        if deed[0] == "move":
            queue = self.queues[deed[1]]
            at = 0 if len(deed) == 2 else min(k for k, pair in enumerate(queue) if pair[0] == deed[2])
            place, value = queue.pop(at)
            self.there[place] = value
            return
        hand, way = deed[1], deed[2]
        row = self.program[hand][self.at[hand]]
        word = row[0]
        self.at[hand] += 1
        if word == "only" and self.held[hand][row[1]] != row[2]:
            self.at[hand] += row[3]
        if word == "fence" and self.rule == "views":
            both = [messages[max(messages.index(a), messages.index(b))]
                    for messages, a, b in zip(self.rows, self.views[hand], self.fences)]
            self.views[hand], self.fences = list(both), list(both)
        if word == "put":
            self.put(hand, row[1], row[2], way)
        if word == "give":
            self.put(hand, row[1], self.held[hand][row[2]], way)
        if word == "get":
            self.held[hand][row[1]] = self.get(hand, row[2], way)
        if word == "swap":
            self.held[hand][row[1]] = self.get(hand, row[2], way)
            if self.rule == "views":
                self.put(hand, row[2], row[3], way + 1, True)
            else:
                self.there[row[2]] = row[3]

    def get(self, hand, place, way):
        if self.rule == "views":
            message = self.rows[place][way]
            self.views[hand] = [row[max(row.index(a), row.index(b))]
                                for row, a, b in zip(self.rows, self.views[hand], message.view)]
            return message.value
        for where, value in reversed(self.queues[hand]):
            if where == place:
                return value
        return self.there[place]

    def put(self, hand, place, value, way, tied=False):
        if self.rule == "views":
            message = Message(value, tied)
            self.rows[place].insert(way, message)
            self.views[hand][place] = message
            message.view = list(self.views[hand])
        elif self.rule == "one" or self.room == 0:
            self.there[place] = value
        else:
            self.queues[hand].append((place, value))


def behind(machine, deed):
    other = deepcopy(machine)
    other.do(deed)
    return other


def reference_states(program, rule, room=None, depth=None):
    """A dict from all states that come about to a machine in each."""
    first = Machine(program, rule, room, depth)
    found = {first.name(): first}
    waiting = [first]
    while waiting:
        machine = waiting.pop()
        for deed in machine.deeds():
            other = behind(machine, deed)
            if other.name() not in found:
                found[other.name()] = other
                waiting.append(other)
    return found


def reference_outcomes(program, rule, room=None, depth=None):
    """The ascending list of all outcomes."""
    machines = reference_states(program, rule, room, depth).values()
    return sorted({machine.outcome() for machine in machines if machine.over()})


def replayed(program, rule, run):
    """The machine behind a run, None if it is none: no list, or with something that is no deed that can be done."""
    machine = Machine(program, rule)
    if not isinstance(run, list):
        return None
    for deed in run:
        if repr(deed) not in [repr(possible) for possible in machine.deeds()]:
            return None
        machine.do(deed)
    return machine


def end_of_run(program, rule, run):
    """The outcome of a whole run, None if it is none."""
    machine = replayed(program, rule, run)
    return machine.outcome() if machine and machine.over() else None


def whole_runs(program, rule):
    """All whole runs of a small program, each with its outcome."""
    found = []

    def go(machine, run):
        if machine.over():
            found.append((run, machine.outcome()))
        for deed in machine.deeds():
            go(behind(machine, deed), run + [deed])

    go(Machine(program, rule), [])
    return found


def chains_fit(row, reads):
    """Whether each swap in a row of doings stands directly behind the doing that it reads."""
    return all(row.index(reads[doing]) + 1 == row.index(doing) for doing in row if doing in reads)


def fences_fit(order):
    """Whether the fences of each hand are in their order."""
    return all(a < b for at, a in enumerate(order) for b in order[at + 1:] if a[0] == b[0])


def reference_readings(program):
    """All ways to read, found step by step in all orders: reads, what was put, the fences, and what the hands hold."""
    worth = frozenset(((None, place), (place, 0)) for place in range(4))
    first = (tuple((0, (0, 0, 0)) for _ in program), worth, frozenset(), frozenset())
    found, waiting, whole = {first}, [first], []
    while waiting:
        stands, worth, reads, fences = node = waiting.pop()
        if all(at == len(rows) for (at, _), rows in zip(stands, program)):
            whole.append(node)
        for hand, rows in enumerate(program):
            at, held = stands[hand]
            if at == len(rows):
                continue
            doing, row, ends = (hand, at), rows[at], []
            if row[0] == "only":
                ends = [(at + 1 + (row[3] if held[row[1]] != row[2] else 0), held, worth, reads, fences)]
            elif row[0] == "fence":
                ends = [(at + 1, held, worth, reads, fences | {doing})]
            elif row[0] in ("put", "give"):
                value = row[2] if row[0] == "put" else held[row[2]]
                ends = [(at + 1, held, worth | {(doing, (row[1], value))}, reads, fences)]
            else:
                for source, (place, value) in worth:
                    if place == row[2]:
                        then = held[:row[1]] + (value,) + held[row[1] + 1:]
                        more = worth | {(doing, (place, row[3]))} if row[0] == "swap" else worth
                        ends.append((at + 1, then, more, reads | {(doing, source)}, fences))
            for to, then, more, read, fenced in ends:
                other = (stands[:hand] + ((to, then),) + stands[hand + 1:], more, read, fenced)
                if other not in found:
                    found.add(other)
                    waiting.append(other)
    return [(dict(reads), dict(worth), fences, tuple(held for _, held in stands)) for stands, worth, reads, fences in whole]


def reference_stories(program, rule):
    """A dict from all stories, as triples of ascending reads, puts and fences, to their outcomes."""
    stories = {}
    for reads, worth, fences, held in reference_readings(program):
        rows = []
        for place in range(4):
            doings = [doing for doing in worth if worth[doing][0] == place and doing[0] is not None]
            orders = [((None, place),) + order for order in permutations(doings)]
            rows.append([order for order in orders if chains_fit(order, reads)])
        orders = [order for order in permutations(sorted(fences)) if fences_fit(order)]
        if rule != "views":
            orders = [tuple(sorted(fences))]
        for puts in product(*rows):
            for order in orders:
                there = tuple(worth[row[-1]][1] for row in puts)
                stories[(tuple(sorted(reads.items())), puts, order)] = (held, there)
    return stories


def reference_steps(program, story):
    """All steps of a story, as a dict from pairs of doings to lists of words."""
    reads, puts, fences = story
    reads = dict(reads)
    doings = sorted(set(reads) | set(fences) | {doing for row in puts for doing in row if doing[0] is not None})
    steps = {}

    def add(one, word, other):
        steps.setdefault((one, other), []).append(word)

    for one in doings:
        for other in doings:
            if one[0] == other[0] and one[1] < other[1]:
                add(one, "row", other)
    for doing, source in reads.items():
        add(source, "read", doing)
        for row in puts:
            if source in row:
                for other in row[row.index(source) + 1:]:
                    if other != doing:
                        add(doing, "past", other)
    for row in puts:
        for one, other in combinations(row, 2):
            add(one, "over", other)
    for one, other in combinations(fences, 2):
        add(one, "fence", other)
    return steps


def reference_circles(program, story):
    """All circles of a small story, each once, beginning with its least doing."""
    steps = reference_steps(program, story)
    doings = sorted({doing for pair in steps for doing in pair if doing[0] is not None})
    found = []

    def go(path, words):
        for word in steps.get((path[-1], path[0]), []):
            found.append(list(zip(path, words + [word])))
        for other in doings:
            if other > path[0] and other not in path:
                for word in steps.get((path[-1], other), []):
                    go(path + [other], words + [word])

    for doing in doings:
        go([doing], [])
    return found


def place_there(program, doing):
    row = program[doing[0]][doing[1]]
    return {"put": row[1:2], "give": row[1:2], "get": row[2:3], "swap": row[2:3]}.get(row[0], (None,))[0]


def bars(program, rule, circle):
    """Whether a circle is one against a rule, written down as the document says it."""
    words = [word for _, word in circle]
    doings = [doing for doing, _ in circle]
    if rule == "views":
        return words.count("over") + words.count("past") <= 1
    if "fence" in words:
        return False
    places = {place_there(program, doing) for doing in doings}
    if rule == "one" or (len(places) == 1 and None not in places):
        return True
    for at, (doing, word) in enumerate(circle):
        target = doings[(at + 1) % len(doings)]
        row, other = program[doing[0]][doing[1]], program[target[0]][target[1]]
        if word == "read" and doing[0] == target[0]:
            return False
        if word == "row" and row[0] in ("put", "give"):
            if other[0] == "get":
                return False
            if rule == "lanes" and other[0] in ("put", "give") and place_there(program, doing) != place_there(program, target):
                return False
    return True
