"""Who can be seen at all, when all BILLs are pasted in an ORDER that nobody knows."""

from lastpasted.bills import bill_of, names, need_names, over, over_pieces, pieces
from lastpasted.forms import subsets
from lastpasted.looks import look_of


def seen_in(fence, order):
    return tuple(sorted(set(look_of(fence, order))))


def own_pieces(fence, name):
    need_names(fence, (name,))
    return tuple([piece for piece in pieces(fence) if over(fence, piece[0]) == (name,)])


def surely_seen(fence):
    lying = over_pieces(fence)
    return tuple([name for name in names(fence) if (name,) in lying])


def others_than(known, those):
    return [name for name in known if name not in those]


def can_be_hidden(lying, those):
    """Whether over each PIECE lies a BILL that is none of those; lying has for each PIECE the NAMEs over it."""
    return all([others_than(here, those) != [] for here in lying])


def alone_somewhere(lying, left):
    """Those left that lie over a PIECE over which no other one left lies."""
    found = [[other for other in here if other in left] for here in lying]
    return [name for name in left if [name] in found]


def shown_row(lying, those):
    """Those in a row in which each one is seen, pasted in it over all others; some are left out if it can't be."""
    row = []
    left = those
    taken = alone_somewhere(lying, left)
    # Who is alone somewhere is seen there also below all others left, so it can be pasted ahead of them.
    while taken:
        row.extend(taken)
        left = others_than(left, taken)
        taken = alone_somewhere(lying, left)
    return row


def can_be_shown(lying, those):
    return len(shown_row(lying, those)) == len(those)


def is_just(lying, known, those):
    """Whether those can be just the ones of all known that are seen."""
    return can_be_shown(lying, those) and can_be_hidden(lying, others_than(known, those))


def may_hide(fence, those):
    need_names(fence, those)
    return can_be_hidden(over_pieces(fence), those)


def may_show(fence, those):
    need_names(fence, those)
    return can_be_shown(over_pieces(fence), those)


def can_be_just(fence, those):
    need_names(fence, those)
    return is_just(over_pieces(fence), names(fence), those)


def hiding_order(fence, those):
    if not may_hide(fence, those):
        return None
    return (*those, *others_than(names(fence), those))


def order_above_others(fence, those):
    """Those in a row in which each one is seen, over all others."""
    return (*others_than(names(fence), those), *shown_row(over_pieces(fence), those))


def showing_order(fence, those):
    return order_above_others(fence, those) if may_show(fence, those) else None


def just_order(fence, those):
    return order_above_others(fence, those) if can_be_just(fence, those) else None


def just_sets(fence):
    """All sets that can be just those that are seen; there is at least one."""
    known = names(fence)
    lying = over_pieces(fence)
    return [those for those in subsets(known) if is_just(lying, known, those)]


def fewest_seen(fence):
    return len(fewest_set(fence))


def fewest_set(fence):
    found = []
    for here in over_pieces(fence):
        if not any([name in found for name in here]):
            # One of these must be seen; the one that reaches furthest spares the most others. As few as can cover all
            # PIECES are all needed, so each one is alone somewhere and can be seen.
            found.append(max([(bill_of(fence, name)[2], name) for name in here])[1])
    return tuple(sorted(found))


def most_seen(fence):
    return len(most_set(fence))


def most_set(fence):
    return max(just_sets(fence), key=len)


def how_many_just(fence):
    return len(just_sets(fence))


def all_just(fence):
    return sorted(just_sets(fence))
