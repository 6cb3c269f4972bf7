"""SIGHTs of one PHOTO at which all BILLs are pasted: two that clash are all that can bar an ORDER."""

from lastpasted.bills import lies_over, names, over, pieces
from lastpasted.errors import NoHistory
from lastpasted.forms import all_below, as_tuples, is_ascending, is_number, is_pair, is_rising_row, whole_row


def is_sight(fence, thing):
    if not is_pair(thing):
        return False
    cell, name = thing
    return is_number(cell) and name in over(fence, cell)


def is_sights(fence, thing):
    if not isinstance(thing, tuple) or not all([is_sight(fence, part) for part in thing]):
        return False
    return is_ascending(thing)


def clash(fence, one, other):
    cell, name = one
    place, partner = other
    return name != partner and lies_over(fence, name, place) and lies_over(fence, partner, cell)


def clashes(fence, sights):
    members = as_tuples(sights)
    return tuple([(one, other) for one in members for other in members if one < other and clash(fence, one, other)])


def clashes_with_one(fence, sights, sight):
    return any([clash(fence, sight, other) for other in sights])


def free_sights(fence, sights):
    return tuple([sight for sight in as_tuples(sights) if not clashes_with_one(fence, sights, sight)])


def hold_together(fence, sights):
    return clashes(fence, sights) == ()


def seen_below(fence, sights):
    """The pairs (lower, upper) of NAMEs that the SIGHTS tell of, each one seen above all others over its CELL."""
    return [(lower, upper) for cell, upper in sights for lower in over(fence, cell) if lower != upper]


def order_for(fence, sights):
    return whole_row(names(fence), seen_below(fence, sights))


def is_order_for(fence, sights, thing):
    return is_rising_row(names(fence), seen_below(fence, sights), thing)


def surely_below(fence, sights):
    row = order_for(fence, sights)
    if row is None:
        raise NoHistory()
    return all_below(row, seen_below(fence, sights))


def sure_layers(fence, sights):
    below = surely_below(fence, sights)
    layers = []
    left = list(names(fence))
    while left:
        lying_above = [upper for lower, upper in below if lower in left]
        layers.append(tuple([name for name in left if name not in lying_above]))
        left = [name for name in left if name in lying_above]
    return layers


def seen_there(fence, sights, cell):
    if not hold_together(fence, sights):
        return ()
    return tuple([name for name in over(fence, cell) if not clashes_with_one(fence, sights, (cell, name))])


def seen_together(fence, sights, asked):
    if not hold_together(fence, sights):
        return []
    rows = [()]
    for cell in asked:
        seen = seen_there(fence, sights, cell)
        rows = [(*row, (cell, name)) for row in rows for name in seen if not clashes_with_one(fence, row, (cell, name))]
    return [tuple([name for _, name in row]) for row in rows]


def sure_cells(fence, sights):
    seen = [(piece, seen_there(fence, sights, piece[0])) for piece in pieces(fence)]
    return tuple([(piece, found[0]) for piece, found in seen if len(found) == 1])
