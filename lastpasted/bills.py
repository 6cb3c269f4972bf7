"""BILLs, FENCEs and the PIECES and gaps of a FENCE."""

from lastpasted.errors import NoName, Twice
from lastpasted.forms import as_tuples, is_ascending, is_name, is_number, is_triple


def is_bill(thing):
    if not is_triple(thing):
        return False
    name, first, last = thing
    return is_name(name) and is_number(first) and is_number(last) and first <= last


def is_fence(thing):
    if not isinstance(thing, tuple) or not all([is_bill(bill) for bill in thing]):
        return False
    # Names that ascend make the BILLs ascend, and none of them comes twice.
    return is_ascending([bill[0] for bill in thing])


def names(fence):
    return tuple([bill[0] for bill in fence])


def need_names(fence, asked):
    """Raise NoName for the first of the NAMEs asked for that no BILL has."""
    known = names(fence)
    for name in asked:
        if name not in known:
            raise NoName(name)


def bill_of(fence, name):
    for bill in fence:
        if bill[0] == name:
            return as_tuples(bill)
    raise NoName(name)


def over(fence, cell):
    return tuple([name for name, first, last in fence if first <= cell <= last])


def lies_over(fence, name, cell):
    bill = bill_of(fence, name)
    return bill[1] <= cell <= bill[2]


def shared(fence, one, other):
    bill = bill_of(fence, one)
    partner = bill_of(fence, other)
    first = max(bill[1], partner[1])
    last = min(bill[2], partner[2])
    return (first, last) if first <= last else None


def meet(fence, one, other):
    return shared(fence, one, other) is not None


def meeting(fence):
    known = names(fence)
    return tuple([(low, high) for low in known for high in known if low < high and meet(fence, low, high)])


def stretches(fence):
    """All stretches that the cuts leave, PIECES and gaps, ascending."""
    cuts = sorted({cut for bill in fence for cut in (bill[1], bill[2] + 1)})
    return [(cut, after - 1) for cut, after in zip(cuts, cuts[1:])]


def pieces(fence):
    # No BILL begins or ends inside of a stretch, so its first CELL speaks for all.
    return tuple([stretch for stretch in stretches(fence) if over(fence, stretch[0])])


def gaps(fence):
    return tuple([stretch for stretch in stretches(fence) if not over(fence, stretch[0])])


def piece_of(fence, cell):
    for piece in pieces(fence):
        if piece[0] <= cell <= piece[1]:
            return piece
    return None


def over_pieces(fence):
    return tuple([over(fence, piece[0]) for piece in pieces(fence)])


def moved(fence, number):
    return tuple([(name, first + number, last + number) for name, first, last in fence])


def turned_about(fence):
    return tuple([(name, -last, -first) for name, first, last in fence])


def cut_to(fence, first, last):
    cut = [(name, max(first, low), min(last, high)) for name, low, high in fence]
    return tuple([bill for bill in cut if bill[1] <= bill[2]])


def without(fence, some):
    need_names(fence, some)
    return tuple([bill for bill in as_tuples(fence) if bill[0] not in some])


def with_bill(fence, bill):
    if bill[0] in names(fence):
        raise Twice(bill[0])
    return tuple(sorted([*as_tuples(fence), as_tuples(bill)]))


def renamed(fence, pairs):
    need_names(fence, [pair[0] for pair in pairs])
    fresh = {before: after for before, after in pairs}
    rows = sorted([(fresh.get(name, name), first, last) for name, first, last in fence])
    for row, following in zip(rows, rows[1:]):
        if row[0] == following[0]:
            raise Twice(row[0])
    return tuple(rows)
