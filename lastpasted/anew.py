"""Which BILLs must be pasted once more, or torn off, so that what is wished is seen."""

from lastpasted.bills import over
from lastpasted.cases import last_over
from lastpasted.forms import as_tuples, is_row
from lastpasted.pairs import order_for, seen_below
from lastpasted.stacks import same_stack, stack_of


def top(fence, order, cell):
    return last_over(fence, order, cell)


def shows(fence, order, wishes):
    return lacking(fence, order, wishes) == ()


def shown(fence, order, wishes):
    return tuple([wish for wish in as_tuples(wishes) if top(fence, order, wish[0]) == wish[1]])


def lacking(fence, order, wishes):
    return tuple([wish for wish in as_tuples(wishes) if top(fence, order, wish[0]) != wish[1]])


def pasted_anew(order, row):
    return tuple([*[name for name in order if name not in row], *row])


def spread(first, below):
    """The set of the first NAMEs and of all that pairs (lower, upper) have above one of the set."""
    found = {name: True for name in first}
    before = None
    while before != len(found):
        before = len(found)
        for lower, upper in below:
            if lower in found:
                found[upper] = True
    return tuple(sorted(found))


def anew(fence, order, wishes):
    if order_for(fence, wishes) is None:
        return None
    # What comes over a CELL once more covers the BILL that is wished there: that one must follow.
    return spread([name for _, name in lacking(fence, order, wishes)], seen_below(fence, wishes))


def anew_row(fence, order, wishes):
    some = anew(fence, order, wishes)
    if some is None:
        return None
    return tuple([name for name in order_for(fence, wishes) if name in some])


def is_anew_row(fence, order, wishes, thing):
    some = anew(fence, order, wishes)
    if some is None or not is_row(some, thing):
        return False
    return shows(fence, pasted_anew(order, thing), wishes)


def least_price(fence, order, wishes, prices):
    some = anew(fence, order, wishes)
    if some is None:
        return None
    costs = {name: price for name, price in prices}
    return sum([costs.get(name, 1) for name in some])


def lying_above(fence, order, wish):
    """The NAMEs of the BILLs over the CELL of the wish that were pasted behind the one that is wished there."""
    cell, name = wish
    later = order[order.index(name) + 1:]
    return [other for other in later if other in over(fence, cell)]


def to_tear(fence, order, wishes):
    gone = sorted({name for wish in wishes for name in lying_above(fence, order, wish)})
    if any([name in gone for _, name in wishes]):
        return None
    return tuple(gone)


def anew_stack(fence, one, other):
    wanted = stack_of(fence, other)
    present = stack_of(fence, one)
    return spread([pair[1] for pair in wanted if pair not in present], wanted)


def stack_row(fence, one, other):
    some = anew_stack(fence, one, other)
    return tuple([name for name in other if name in some])


def is_stack_row(fence, one, other, thing):
    if not is_row(anew_stack(fence, one, other), thing):
        return False
    return same_stack(fence, pasted_anew(one, thing), other)
