"""STACKs: who lies above whom, of each two BILLs that meet."""

from lastpasted.bills import meet, meeting, names, need_names, over
from lastpasted.cases import NONE_SEEN
from lastpasted.errors import NoNumber
from lastpasted.forms import as_tuples, how_many_from, is_ascending, is_pair, is_row, rising, ways_up


def is_full_order(fence, thing):
    return is_row(names(fence), thing)


def stack_of(fence, order):
    pairs = [pair if order.index(pair[0]) < order.index(pair[1]) else pair[::-1] for pair in meeting(fence)]
    return tuple(sorted(pairs))


def same_stack(fence, one, other):
    return stack_of(fence, one) == stack_of(fence, other)


def is_pair_of_names(thing):
    return is_pair(thing) and isinstance(thing[0], str) and isinstance(thing[1], str)


def is_stack(fence, thing):
    if not isinstance(thing, tuple) or not all([is_pair_of_names(pair) for pair in thing]):
        return False
    if not is_ascending(thing) or sorted([tuple(sorted(pair)) for pair in thing]) != list(meeting(fence)):
        return False
    return len(rising(names(fence), thing)) == len(fence)


def order_of(fence, stack):
    return least_order(fence, stack)


def least_order(fence, stack):
    # The NAMEs ascend, so the least one that can come next is always taken.
    return tuple(rising(names(fence), stack))


def how_many_orders(fence, stack):
    known = names(fence)
    return how_many_from(ways_up(known, stack), known)[0][()]


def by_first_cell(fence):
    """The NAMEs by the first CELLs of their BILLs, of several with the same one by comparison."""
    return [name for _, name in sorted([(bill[1], bill[0]) for bill in fence])]


def met_ahead(fence, row, name):
    """Those of the row ahead of this NAME that meet it; they all lie over its first CELL, so they meet one another."""
    return [other for other in row[:row.index(name)] if meet(fence, other, name)]


def how_many_stacks(fence):
    row = by_first_cell(fence)
    many = 1
    for name in row:
        many = many * (1 + len(met_ahead(fence, row, name)))
    return many


def nth_stack(fence, number):
    if not 0 <= number < how_many_stacks(fence):
        raise NoNumber(number)
    row = by_first_cell(fence)
    left = number
    counts = {}
    for name in reversed(row):
        left, counts[name] = divmod(left, 1 + len(met_ahead(fence, row, name)))
    order = []
    for name in row:
        met = [other for other in order if meet(fence, other, name)]
        # Right behind the last of those that lie below it: then just so many of them do.
        place = order.index(met[counts[name] - 1]) + 1 if counts[name] > 0 else 0
        order.insert(place, name)
    return stack_of(fence, order)


def number_of_stack(fence, stack):
    row = by_first_cell(fence)
    pairs = as_tuples(stack)
    number = 0
    for name in row:
        met = met_ahead(fence, row, name)
        number = number * (1 + len(met)) + len([other for other in met if (other, name) in pairs])
    return number


def exchanges(fence, one, other):
    pairs = stack_of(fence, other)
    return len([pair for pair in stack_of(fence, one) if pair not in pairs])


def on_top(fence, stack, cell):
    lying = over(fence, cell)
    covered = [lower for lower, upper in stack if upper in lying]
    for name in lying:
        if name not in covered:
            return name
    return NONE_SEEN


def torn_off(fence, stack, gone):
    need_names(fence, gone)
    return tuple([pair for pair in as_tuples(stack) if pair[0] not in gone and pair[1] not in gone])
