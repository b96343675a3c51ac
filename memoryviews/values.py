"""Plain values: numbers that are no booleans, strict equality, and copies."""


def is_number(thing):
    """Whether something is an integer, and no boolean."""
    return isinstance(thing, int) and not isinstance(thing, bool)


def is_between(thing, low, high):
    """Whether something is an integer from low to high."""
    return is_number(thing) and low <= thing <= high


def is_tuple_of(thing, many):
    """Whether something is a tuple of so many items."""
    return isinstance(thing, tuple) and len(thing) == many


def is_worded(thing):
    """Whether something is a tuple that begins with a word."""
    return isinstance(thing, tuple) and len(thing) > 0 and isinstance(thing[0], str)


def has_numbers(thing, limits):
    """Whether behind the first item of a tuple there are integers from 0 to these limits, as many as these."""
    if len(thing) != len(limits) + 1:
        return False
    return all([is_between(number, 0, limit) for number, limit in zip(thing[1:], limits)])


def same(one, other):
    """Whether two values are equal, where no boolean is an integer, and no list a tuple."""
    if isinstance(one, (list, tuple)):
        return same_rows(one, other)
    if isinstance(one, dict):
        return isinstance(other, dict) and same_tables(one, other)
    if isinstance(one, bool) or isinstance(other, bool):
        return isinstance(one, bool) and isinstance(other, bool) and one == other
    return one == other


def same_rows(row, other):
    """The same as `same`, for a list or a tuple and anything else."""
    if not isinstance(other, (list, tuple)) or isinstance(row, list) != isinstance(other, list):
        return False
    return len(row) == len(other) and all([same(thing, that) for thing, that in zip(row, other)])


def same_tables(table, other):
    """The same as `same`, for two dicts, in any order."""
    names = {name: name for name in other}
    if len(table) != len(names):
        return False
    return all([name in names and same(name, names[name]) and same(table[name], other[name]) for name in table])


def frozen(thing):
    """A value with tuples in place of all lists and tuples."""
    if isinstance(thing, (list, tuple)):
        return tuple([frozen(item) for item in thing])
    return thing


def listed(things):
    """A new list of things, each of them frozen; what is no sequence stays as it is."""
    if isinstance(things, (list, tuple)):
        return [frozen(thing) for thing in things]
    return things


def run_table(runs):
    """A copy of a dict to runs or other lists, with a new list for each."""
    return {name: listed(runs[name]) for name in runs}


def in_line(targets):
    """A list of all keys of a dict to lists of keys, each of them ahead of those in its list, if there is no circle."""
    missing = {thing: 0 for thing in targets}
    for thing in targets:
        for target in targets[thing]:
            missing[target] += 1
    line = []
    ready = [thing for thing in missing if missing[thing] == 0]
    while ready:
        thing = ready.pop()
        line.append(thing)
        for target in targets[thing]:
            missing[target] -= 1
            if missing[target] == 0:
                ready.append(target)
    return line


def lists_all(things, known):
    """Whether a list has exactly the items that are the keys of a dict or the items of a list, each once."""
    if not isinstance(things, list) or len(things) != len(known):
        return False
    own = {thing: thing for thing in known}
    if not all([frozen(thing) in own and same(thing, own[frozen(thing)]) for thing in things]):
        return False
    return len({thing for thing in things}) == len(own)


def replaced(row, at, thing):
    """A tuple with one item replaced."""
    return row[:at] + (thing,) + row[at + 1:]
