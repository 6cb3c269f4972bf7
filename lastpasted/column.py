"""BILLs round a COLUMN, whose CELLs are counted round it: here three SIGHTS and more can bar all ORDERs, too."""

from lastpasted.cases import NONE_SEEN
from lastpasted.errors import NoHistory
from lastpasted.forms import (
    all_below, as_tuples, is_ascending, is_name, is_number, is_rising_row, is_triple, stands_in, subsets, whole_row,
)


def is_round_cell(size, thing):
    return is_number(thing) and 0 <= thing < size


def is_round_bill(size, thing):
    if not is_triple(thing):
        return False
    name, first, last = thing
    return is_name(name) and is_round_cell(size, first) and is_round_cell(size, last)


def is_column(size, thing):
    if not isinstance(thing, tuple) or not all([is_round_bill(size, bill) for bill in thing]):
        return False
    # Names that ascend make the BILLs ascend, and none of them comes twice.
    return is_ascending([bill[0] for bill in thing])


def names_round(column):
    return tuple([bill[0] for bill in column])


def lies_round(bill, cell):
    _, first, last = bill
    if first <= last:
        return first <= cell <= last
    return first <= cell or cell <= last


def over_round(size, column, cell):
    return tuple([bill[0] for bill in column if lies_round(bill, cell)])


def meets_round(one, other):
    # Going back from a CELL of both, the first CELL of one of them is come to while still over the other one.
    return lies_round(one, other[1]) or lies_round(other, one[1])


def meet_round(size, column):
    return tuple([
        (one[0], other[0]) for one in column for other in column if one[0] < other[0] and meets_round(one, other)
    ])


def round_turned(size, column, number):
    return tuple([(name, (first + number) % size, (last + number) % size) for name, first, last in column])


def seen_below_round(size, column, sights):
    """The pairs (lower, upper) of NAMEs that the SIGHTS tell of, each one seen above all others over its CELL."""
    return [(lower, upper) for cell, upper in sights for lower in over_round(size, column, cell) if lower != upper]


def can_hold_round(size, column, sights):
    return round_order(size, column, sights) is not None


def round_order(size, column, sights):
    return whole_row(names_round(column), seen_below_round(size, column, sights))


def is_round_order(size, column, sights, thing):
    return is_rising_row(names_round(column), seen_below_round(size, column, sights), thing)


def clash_round(size, column, one, other):
    cell, name = one
    place, partner = other
    return name != partner and name in over_round(size, column, place) and partner in over_round(size, column, cell)


def clashing_sights(size, column, sights):
    members = as_tuples(sights)
    return tuple([
        (one, other) for one in members for other in members if one < other and clash_round(size, column, one, other)
    ])


def round_of(told, some, side):
    """SIGHTS of just these BILLs, each in a CELL that of them it lies over and its neighbour to this side alone.

    told has for each NAME the pairs of a CELL of its SIGHTS and the NAMEs over it. [] if a BILL has no such SIGHT.
    """
    found = []
    for at, name in enumerate(some):
        neighbour = some[(at + side) % len(some)]
        cells = [
            cell for cell, lying in told[name]
            if neighbour in lying and len([other for other in some if other in lying]) == 2
        ]
        if not cells:
            return []
        found.append((cells[0], name))
    return found


def a_round(size, column, sights):
    told = {}
    for cell, seen in sights:
        told.setdefault(seen, []).append((cell, over_round(size, column, cell)))
    # The BILLs of a ROUND begin in the order in which they lie round the column: no two of them in the same CELL.
    row = [name for _, name in sorted([(bill[1], bill[0]) for bill in column if bill[0] in told])]
    for some in subsets(row):
        if len(some) >= 3:
            found = round_of(told, some, 1) or round_of(told, some, -1)
            if found:
                return tuple(sorted(found))
    return None


def goes_round(size, column, row, side):
    """Whether each BILL of these SIGHTS lies over its own CELL and that of its neighbour to this side alone.

    Of three CELLs or more that is enough: the other way round between both it would lie over another one.
    """
    for at, sight in enumerate(row):
        lying = [place for place, other in enumerate(row) if sight[1] in over_round(size, column, other[0])]
        if lying != sorted([at, (at + side) % len(row)]):
            return False
    return True


def is_round(size, column, sights, thing):
    members = as_tuples(sights)
    if not isinstance(thing, tuple) or len(thing) < 3 or not all([stands_in(members, part) for part in thing]):
        return False
    if not is_ascending([cell for cell, _ in thing]):
        return False
    return goes_round(size, column, thing, -1) or goes_round(size, column, thing, 1)


def some_round(size, column):
    # From one of these CELLs up to the next one the same BILLs lie over all CELLs.
    cells = sorted({cell for _, first, last in column for cell in (first, (last + 1) % size)})
    return a_round(size, column, [(cell, name) for cell in cells for name in over_round(size, column, cell)])


def surely_above(size, column, sights):
    row = round_order(size, column, sights)
    if row is None:
        raise NoHistory()
    below = all_below(row, seen_below_round(size, column, sights))
    return tuple(sorted([(upper, lower) for lower, upper in below]))


def round_answers(size, column, sights, cell):
    if not can_hold_round(size, column, sights):
        raise NoHistory()
    lying = over_round(size, column, cell)
    if lying == ():
        return (NONE_SEEN,)
    return tuple([name for name in lying if can_hold_round(size, column, [*sights, (cell, name)])])


def stacks_of_some(ways, apart, some):
    """How many unlike ORDERs these BILLs have; ways has that for all sets of fewer of them, apart those that none meet.

    Each set of BILLs that may lie below all that they meet is counted, in and out by how many they are: of all sets of
    the lowest ones of an ORDER those of an odd many are one more than those of an even many.
    """
    many = 0
    for lowest in subsets(some):
        if lowest != () and apart[lowest]:
            rest = ways[tuple([name for name in some if name not in lowest])]
            many = many + rest if len(lowest) % 2 == 1 else many - rest
    return many


def how_many_round_stacks(size, column):
    met = meet_round(size, column)
    sets = subsets(names_round(column))
    apart = {row: not any([one in row and other in row for one, other in met]) for row in sets}
    ways = {(): 1}
    for some in sets[1:]:
        ways[some] = stacks_of_some(ways, apart, some)
    return ways[names_round(column)]
