"""What several files need: kinds of values, copies, NAMEs put in a row, and ways counted from step to step."""

from lastpasted.errors import NoNumber


def is_number(thing):
    # A bool is an int for Python, but no number here.
    return isinstance(thing, int) and not isinstance(thing, bool)


def is_name(thing):
    if not isinstance(thing, str) or not 1 <= len(thing) <= 8:
        return False
    return all(["a" <= sign <= "z" for sign in thing])


def is_pair(thing):
    return isinstance(thing, tuple) and len(thing) == 2


def is_triple(thing):
    return isinstance(thing, tuple) and len(thing) == 3


def is_ascending(rows):
    """Whether each of these, all of one kind, is greater than the one ahead of it."""
    return all([low < high for low, high in zip(rows, rows[1:])])


def as_tuples(value):
    """The value with tuples in the place of lists, at every depth."""
    if isinstance(value, (list, tuple)):
        return tuple([as_tuples(part) for part in value])
    return value


def is_row(known, thing):
    """Whether thing is a tuple of just these NAMEs, each once, in whatever order."""
    if not isinstance(thing, tuple) or not all([isinstance(part, str) for part in thing]):
        return False
    return sorted(thing) == sorted(known)


def stands_in(members, thing):
    """Whether thing is one of these tuples of numbers and strings."""
    # True == 1 for Python, so that a tuple with a bool in it would pass for a member.
    if not isinstance(thing, tuple) or any([isinstance(part, bool) for part in thing]):
        return False
    return thing in members


def subsets(members):
    """All sets of these, each in their order; each one stands behind all those that lie in it."""
    found = [()]
    for member in members:
        found = [*found, *[(*some, member) for some in found]]
    return found


def rising(known, below):
    """The NAMEs in a row, each behind all that pairs (lower, upper) have below it, the first ones of known first.

    Those that lie in a ring of such pairs, or above one, are left out.
    """
    lowers = {name: [] for name in known}
    for lower, upper in below:
        lowers[upper].append(lower)
    placed = {}
    for _ in known:
        free = [name for name in known if name not in placed and all([low in placed for low in lowers[name]])]
        if free:
            placed[free[0]] = True
    return list(placed)


def whole_row(known, below):
    """A row as rising gives it, if it has all of the NAMEs; else None."""
    row = rising(known, below)
    return tuple(row) if len(row) == len(known) else None


def is_rising_row(known, below, thing):
    """Whether thing is a row of all NAMEs, each behind all that pairs (lower, upper) have below it."""
    return is_row(known, thing) and all([thing.index(lower) < thing.index(upper) for lower, upper in below])


def ring_of(known, below):
    """NAMEs of which each lies above the next one, the last one above the first one; [] if there are none."""
    free = rising(known, below)
    # Each one that is not free lies above another such one: going down from one to the next leads into a ring.
    down = {upper: lower for lower, upper in below if lower not in free}
    if not down:
        return []
    walk = [min(list(down.keys()))]
    while down[walk[-1]] not in walk:
        walk.append(down[walk[-1]])
    return walk[walk.index(down[walk[-1]]):]


def all_below(row, below):
    """The set of all pairs (lower, upper) that these pairs lead to, one through another; row is as rising gives it."""
    found = {}
    for name in row:
        found[name] = {}
        for lower, upper in below:
            if upper == name:
                found[name][lower] = True
                found[name].update(found[lower])
    return tuple(sorted([(lower, name) for name in row for lower in found[name]]))


def ways_up(known, below):
    """The steps in which the NAMEs, ascending, come into a row behind all that pairs (lower, upper) have below them.

    Each step has for each set of NAMEs that can stand in the row by then {next NAME: the set with it}.
    """
    lowers = {name: [lower for lower, upper in below if upper == name] for name in known}
    paths = []
    sets = [()]
    for _ in known:
        moves = {}
        for placed in sets:
            free = [name for name in known if name not in placed and all([low in placed for low in lowers[name]])]
            moves[placed] = {name: tuple(sorted([*placed, name])) for name in free}
        paths.append(moves)
        sets = sorted({after for ways in list(moves.values()) for after in list(ways.values())})
    return paths


def how_many_from(paths, end):
    """For each step, and for behind the last one, how many ways lead on from each state to the end.

    Each step of the paths has for each state in which one can come to it {NAME taken: next state}; the first one is ().
    """
    counts = [{end: 1}]
    for moves in reversed(paths):
        behind = counts[-1]
        counts.append({state: sum([behind[after] for after in list(ways.values())]) for state, ways in moves.items()})
    return counts[::-1]


def nth_way(paths, end, number):
    """The NAMEs taken on the way with this number, ascending by comparison."""
    counts = how_many_from(paths, end)
    if not 0 <= number < counts[0][()]:
        raise NoNumber(number)
    row = []
    state = ()
    left = number
    for place, moves in enumerate(paths):
        # The NAMEs ascend, so the ways with the first one here come first.
        ways = moves[state]
        for name, after in ways.items():
            if left < counts[place + 1][after]:
                row.append(name)
                state = after
                break
            left = left - counts[place + 1][after]
    return tuple(row)


def number_of_way(paths, end, row):
    """The number of the way on which these NAMEs are taken."""
    counts = how_many_from(paths, end)
    number = 0
    state = ()
    for place, name in enumerate(row):
        ways = paths[place][state]
        number = number + sum([counts[place + 1][ways[other]] for other in ways if other < name])
        state = ways[name]
    return number
