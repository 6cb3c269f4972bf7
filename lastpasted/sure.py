"""What is so in all HISTORYs that fit a CASE."""

from lastpasted.bills import names, need_names, over, pieces
from lastpasted.cases import NONE_SEEN, need_photo, with_fact, with_telling
from lastpasted.errors import NoHistory
from lastpasted.latest import can_fit, latest


def need_history(case):
    if not can_fit(case):
        raise NoHistory()


def surely_there(case, photo):
    need_photo(case[1], photo)
    return tuple([name for name, slot in latest(case) if slot <= photo])


def surely_not(case, photo):
    need_photo(case[1], photo)
    need_history(case)
    return tuple([name for name in names(case[0]) if not can_fit(with_fact(case, ("there", photo, name)))])


def in_slot(case, name, slot):
    """The CASE with what tells that the BILL has this SLOT."""
    if slot > 0:
        case = with_fact(case, ("not", slot - 1, name))
    if slot < case[1]:
        case = with_fact(case, ("there", slot, name))
    return case


def slots(case, name):
    need_names(case[0], (name,))
    need_history(case)
    return tuple([slot for slot in range(case[1] + 1) if can_fit(in_slot(case, name, slot))])


def is_sure_before(case, one, other):
    """Whether no HISTORY fits in which other comes first, in a CASE that some HISTORY fits."""
    return not can_fit(with_fact(case, ("before", other, one)))


def surely_before(case, one, other):
    need_names(case[0], (one, other))
    need_history(case)
    return is_sure_before(case, one, other)


def sure_order(case):
    need_history(case)
    known = names(case[0])
    pairs = [(one, other) for one in known for other in known if one != other]
    return tuple([(one, other) for one, other in pairs if is_sure_before(case, one, other)])


def answers(case, photo, cell):
    need_photo(case[1], photo)
    need_history(case)
    return tuple([
        seen for seen in (NONE_SEEN, *over(case[0], cell)) if can_fit(with_telling(case, photo, cell, seen))
    ])


def sure_answer(case, photo, cell):
    found = answers(case, photo, cell)
    return found[0] if len(found) == 1 else None


def sure_look(case, photo):
    need_photo(case[1], photo)
    need_history(case)
    return tuple([sure_answer(case, photo, piece[0]) for piece in pieces(case[0])])
