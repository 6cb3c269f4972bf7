"""Loose CASEs, whose BILLs may reach further than the FENCE has them."""

from lastpasted.bills import bill_of, lies_over, names, need_names, turned_about
from lastpasted.cases import NONE_SEEN, is_case_but_for_told, is_photo
from lastpasted.forms import is_ascending, is_number, is_triple
from lastpasted.latest import can_fit


def is_loose_telling(fence, photos, thing):
    if not is_triple(thing):
        return False
    photo, cell, seen = thing
    return is_photo(photos, photo) and is_number(cell) and (seen == NONE_SEEN or seen in names(fence))


def is_loose_case(thing):
    if not is_case_but_for_told(thing):
        return False
    fence, photos, told, _ = thing
    if not isinstance(told, tuple) or not all([is_loose_telling(fence, photos, part) for part in told]):
        return False
    return is_ascending(told)


def is_bound(fence, thing):
    if not is_triple(thing):
        return False
    name, low, high = thing
    if name not in names(fence) or not is_number(low) or not is_number(high):
        return False
    _, first, last = bill_of(fence, name)
    return low <= first and last <= high


def is_bounds(case, thing):
    if not isinstance(thing, tuple) or not all([is_bound(case[0], part) for part in thing]):
        return False
    return is_ascending([part[0] for part in thing])


def is_within(bounds, bill):
    """Whether the BILL reaches no further than the bounds let it."""
    return all([low <= bill[1] and bill[2] <= high for name, low, high in bounds if name == bill[0]])


def least_fence(case, bounds):
    rows = []
    for name, first, last in case[0]:
        cells = [first, last, *[cell for _, cell, seen in case[2] if seen == name]]
        rows.append((name, min(cells), max(cells)))
    return tuple(rows) if all([is_within(bounds, bill) for bill in rows]) else None


def can_hold_with(case, fence):
    _, photos, told, facts = case
    return can_fit((fence, photos, told, facts))


def least_holding(case, bounds):
    """The least possible FENCE if the CASE can hold; None if it can not."""
    # What lies over more CELLs is barred by more TELLINGS: if not with the least FENCE, it can hold with none.
    fence = least_fence(case, bounds)
    return fence if fence is not None and can_hold_with(case, fence) else None


def can_hold(case, bounds):
    return least_holding(case, bounds) is not None


def surely_over(case, bounds, name, cell):
    need_names(case[0], (name,))
    fence = least_holding(case, bounds)
    return None if fence is None else lies_over(fence, name, cell)


def holds_so(case, fence, bill):
    """Whether the CASE can hold with the FENCE with this BILL in the place of that of its NAME."""
    return can_hold_with(case, [bill if other[0] == bill[0] else other for other in fence])


def may_lie(case, bounds, name, first, last):
    need_names(case[0], (name,))
    fence = least_holding(case, bounds)
    bill = (name, first, last)
    if fence is None or not is_within(bounds, bill):
        return False
    _, low, high = bill_of(fence, name)
    return first <= low and high <= last and holds_so(case, fence, bill)


def limits(bounds, name):
    """The pair (low, high) of the bounds of this BILL, None for each if it has none."""
    for other, low, high in bounds:
        if other == name:
            return (low, high)
    return (None, None)


def least_first(case, fence, name, low):
    """The least first CELL, from low on, of this BILL, all others lying as in the FENCE; None if it has no end."""
    _, first, last = bill_of(fence, name)
    cells = sorted({cell for _, cell, _ in case[2] if cell < first and (low is None or low <= cell)})
    # Only a CELL that a TELLING speaks of can bar the BILL.
    for cell in reversed(cells):
        if not holds_so(case, fence, (name, cell, last)):
            return cell + 1
    return low


def told_turned_about(case):
    fence, photos, told, facts = case
    return (turned_about(fence), photos, sorted([(photo, -cell, seen) for photo, cell, seen in told]), facts)


def reach(case, bounds, name):
    need_names(case[0], (name,))
    fence = least_holding(case, bounds)
    if fence is None:
        return None
    low, high = limits(bounds, name)
    turned_high = None if high is None else -high
    turned = least_first(told_turned_about(case), turned_about(fence), name, turned_high)
    return (least_first(case, fence, name, low), None if turned is None else -turned)
