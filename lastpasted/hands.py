"""BILLs pasted by several hands, of each of which the order is known: what bars all WEAVINGs is a KNOT of STAIRS."""

from lastpasted.bills import names, over, over_pieces
from lastpasted.cases import NONE_SEEN
from lastpasted.errors import NoHistory
from lastpasted.forms import (
    all_below, as_tuples, how_many_from, is_pair, is_rising_row, is_row, nth_way, number_of_way, ring_of, stands_in,
    ways_up, whole_row,
)
from lastpasted.pairs import clashes, seen_below


def is_hands(fence, thing):
    if not isinstance(thing, tuple) or not all([isinstance(row, tuple) for row in thing]):
        return False
    return is_row(names(fence), tuple([name for row in thing for name in row]))


def woven_below(fence, hands, sights):
    """The pairs (lower, upper) of NAMEs that the rows and the SIGHTS tell of."""
    pasted = [(lower, upper) for row in hands for lower, upper in zip(row, row[1:])]
    return [*pasted, *seen_below(fence, sights)]


def a_weaving(fence, hands, sights):
    return whole_row(names(fence), woven_below(fence, hands, sights))


def can_weave(fence, hands, sights):
    return a_weaving(fence, hands, sights) is not None


def is_weaving(fence, hands, sights, thing):
    return is_rising_row(names(fence), woven_below(fence, hands, sights), thing)


def steps_down(fence, sights, name):
    """For each NAME that SIGHTS lead down to from this one, as few of them as do."""
    found = {name: ()}
    fresh = [name]
    while fresh:
        reached = []
        for cell, upper in sights:
            for lower in over(fence, cell):
                if upper in fresh and lower not in found:
                    found[lower] = (*found[upper], (cell, upper))
                    reached.append(lower)
        fresh = reached
    return found


def stands_later(hands, late, early):
    """Whether both stand in the row of one hand, late behind early."""
    return any([late in row and early in row and row.index(late) > row.index(early) for row in hands])


def all_stairs(fence, hands, sights):
    """For pairs (lower, upper) of NAMEs STAIRS from upper to an end that stands later than lower in a row."""
    found = {}
    for upper in names(fence):
        for end, steps in steps_down(fence, sights, upper).items():
            for lower in names(fence):
                if steps != () and stands_later(hands, end, lower):
                    found[(lower, upper)] = (steps, end)
    return found


def a_knot(fence, hands, sights):
    clashing = clashes(fence, sights)
    if clashing != ():
        one, other = clashing[0]
        return (((one, other), one[1]),)
    # If no two SIGHTS clash, the fewest that lead down from one to another go one way along the FENCE.
    stairs = all_stairs(fence, hands, sights)
    row = ring_of(names(fence), list(stairs.keys()))
    # [*row[1:], *row[:1]] has for each of them the next one.
    knot = tuple([stairs[(lower, upper)] for upper, lower in zip(row, [*row[1:], *row[:1]])])
    return knot if knot != () else None


def goes_one_way(steps):
    """Whether none of the cells of these SIGHTS is less than the one ahead of it, or none is greater."""
    pairs = list(zip(steps, steps[1:]))
    return all([one[0] <= other[0] for one, other in pairs]) or all([one[0] >= other[0] for one, other in pairs])


def are_stairs(fence, sights, thing):
    if not is_pair(thing) or not isinstance(thing[0], tuple) or thing[0] == ():
        return False
    steps, end = thing
    if not all([stands_in(sights, step) for step in steps]):
        return False
    following = [*[name for _, name in steps[1:]], end]
    leads_down = [lower != upper and lower in over(fence, cell) for (cell, upper), lower in zip(steps, following)]
    return all(leads_down) and goes_one_way(steps)


def is_knot(fence, hands, sights, thing):
    members = as_tuples(sights)
    if not isinstance(thing, tuple) or thing == () or not all([are_stairs(fence, members, part) for part in thing]):
        return False
    firsts = [steps[0][1] for steps, _ in thing]
    ends = [end for _, end in thing]
    if len(thing) == 1 and ends == firsts:
        return True
    return all([stands_later(hands, end, first) for end, first in zip(ends, [*firsts[1:], firsts[0]])])


def weave_paths(fence, hands, sights):
    return ways_up(names(fence), woven_below(fence, hands, sights))


def how_many_weave(fence, hands, sights):
    return how_many_from(weave_paths(fence, hands, sights), names(fence))[0][()]


def nth_weave(fence, hands, sights, number):
    return nth_way(weave_paths(fence, hands, sights), names(fence), number)


def number_of_weave(fence, hands, sights, weaving):
    if not is_weaving(fence, hands, sights, as_tuples(weaving)):
        return None
    return number_of_way(weave_paths(fence, hands, sights), names(fence), weaving)


def need_weaving(fence, hands, sights):
    if not can_weave(fence, hands, sights):
        raise NoHistory()


def surely_ahead(fence, hands, sights):
    need_weaving(fence, hands, sights)
    return all_below(a_weaving(fence, hands, sights), woven_below(fence, hands, sights))


def weave_answers(fence, hands, sights, cell):
    need_weaving(fence, hands, sights)
    lying = over(fence, cell)
    if lying == ():
        return (NONE_SEEN,)
    return tuple([name for name in lying if can_weave(fence, hands, [*sights, (cell, name)])])


def is_seen_above(lying, placed, name):
    """Whether this BILL, pasted over those placed, is seen behind all others; lying has the NAMEs over each PIECE."""
    return any([name in here and all([other == name or other in placed for other in here]) for here in lying])


def seen_of(fence, hands, sights, place):
    need_weaving(fence, hands, sights)
    lying = over_pieces(fence)
    row = hands[place]
    # For each set of BILLs that can be pasted first: the least and the greatest number seen of all that come then.
    # Whether one of these is seen is told by those pasted ahead of it, in whatever order.
    spans = {names(fence): (0, 0)}
    for moves in reversed(weave_paths(fence, hands, sights)):
        for placed, ways in moves.items():
            found = []
            for name, after in ways.items():
                more = 1 if name in row and is_seen_above(lying, placed, name) else 0
                found.append((spans[after][0] + more, spans[after][1] + more))
            spans[placed] = (min([least for least, _ in found]), max([most for _, most in found]))
    return spans[()]
