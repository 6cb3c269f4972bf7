"""What all files need to tell kinds of values apart and to copy them."""


def is_number(thing):
    # A bool is an int for Python, but no number here.
    return isinstance(thing, int) and not isinstance(thing, bool)


def is_name(thing):
    if not isinstance(thing, str) or not 1 <= len(thing) <= 8:
        return False
    return all(["a" <= sign <= "z" for sign in thing])


def is_pair(thing):
    return isinstance(thing, tuple) and len(thing) == 2


def is_triple(thing):
    return isinstance(thing, tuple) and len(thing) == 3


def is_ascending(rows):
    """Whether each of these, all of one kind, is greater than the one ahead of it."""
    return all([low < high for low, high in zip(rows, rows[1:])])


def as_tuples(value):
    """The value with tuples in the place of lists, at every depth."""
    if isinstance(value, (list, tuple)):
        return tuple([as_tuples(part) for part in value])
    return value


def is_row(known, thing):
    """Whether thing is a tuple of just these NAMEs, each once, in whatever order."""
    if not isinstance(thing, tuple) or not all([isinstance(part, str) for part in thing]):
        return False
    return sorted(thing) == sorted(known)


def stands_in(members, thing):
    """Whether thing is one of these triples of numbers and strings."""
    # True == 1 for Python, so that a triple with a bool in it would pass for a member.
    return is_triple(thing) and not any([isinstance(part, bool) for part in thing]) and thing in members


def rising(known, below):
    """The NAMEs in a row, each behind all that pairs (lower, upper) have below it, the first ones of known first.

    Those that lie in a ring of such pairs, or above one, are left out.
    """
    lowers = {name: [] for name in known}
    for lower, upper in below:
        lowers[upper].append(lower)
    placed = {}
    for _ in known:
        free = [name for name in known if name not in placed and all([low in placed for low in lowers[name]])]
        if free:
            placed[free[0]] = True
    return list(placed)


def all_below(row, below):
    """The set of all pairs (lower, upper) that these pairs lead to, one through another; row is as rising gives it."""
    found = {}
    for name in row:
        found[name] = {}
        for lower, upper in below:
            if upper == name:
                found[name][lower] = True
                found[name].update(found[lower])
    return tuple(sorted([(lower, name) for name in row for lower in found[name]]))
