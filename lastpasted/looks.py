"""LOOKs: who is seen in each PIECE, told from left to right, counted and numbered.

A state is what must be known ahead of a PIECE of those seen further left. It has a pair (name, high) for each BILL that
was seen and lies over this PIECE, too: no BILL over this PIECE that begins at high or ahead of it can be seen here but
this one. LOOKs that come to the same state can go on in the same ways.
"""

from lastpasted.bills import names, need_names, over_pieces, pieces
from lastpasted.cases import last_over
from lastpasted.errors import NoNumber
from lastpasted.forms import how_many_from, nth_way, number_of_way
from lastpasted.pairs import order_for


def look_of(fence, order):
    return tuple([last_over(fence, order, piece[0]) for piece in pieces(fence)])


def begins(fence):
    """For each NAME the number of the PIECE at which its BILL begins."""
    found = {}
    for place, lying in enumerate(over_pieces(fence)):
        for name in lying:
            found.setdefault(name, place)
    return found


def is_look(fence, thing):
    lying = over_pieces(fence)
    if not isinstance(thing, tuple) or len(thing) != len(lying):
        return False
    if not all([name in here for name, here in zip(thing, lying)]):
        return False
    return first_wrong(fence, thing) is None


def first_wrong(fence, seen):
    begin = begins(fence)
    for place, here in enumerate(over_pieces(fence)):
        name = seen[place]
        if any([other != name and other in here and begin[name] <= at for at, other in enumerate(seen[:place])]):
            return place
    return None


def look_order(fence, look):
    return order_for(fence, [(piece[0], name) for piece, name in zip(pieces(fence), look)])


def can_show(begin, state, name):
    return all([high < begin[name] for other, high in state if other != name])


def state_behind(begin, following, place, state, name):
    """The state ahead of the next PIECE, over which the BILLs following lie, this NAME being seen at this place."""
    highs = dict(state)
    highs[name] = place
    # Of all places only those where a BILL that can still be seen begins make a difference.
    return tuple([
        (other, max([begin[one] for one in following if begin[one] <= highs[other]]))
        for other in following if other in highs
    ])


def ways_on(fence, allowed):
    """For each PIECE, for each state in which one can come to it, for each NAME that can be seen then: the next state.

    allowed has for each PIECE the NAMEs, ascending, that are let be seen in it.
    """
    begin = begins(fence)
    lying = [*over_pieces(fence)[1:], ()]
    found = []
    states = [()]
    for place, here in enumerate(allowed):
        moves = {}
        for state in states:
            moves[state] = {
                name: state_behind(begin, lying[place], place, state, name)
                for name in here if can_show(begin, state, name)
            }
        found.append(moves)
        states = sorted({after for ways in list(moves.values()) for after in list(ways.values())})
    return found


def how_many_allowed(fence, allowed):
    return how_many_from(ways_on(fence, allowed), ())[0][()]


def nth_allowed(fence, allowed, number):
    return nth_way(ways_on(fence, allowed), (), number)


def how_many_looks(fence):
    return how_many_allowed(fence, over_pieces(fence))


def nth_look(fence, number):
    return nth_allowed(fence, over_pieces(fence), number)


def number_of_look(fence, look):
    return number_of_way(ways_on(fence, over_pieces(fence)), (), look)


def as_wished(fence, wishes, hidden):
    """For each PIECE the NAMEs, ascending, that the wishes let be seen in it."""
    lying = over_pieces(fence)
    for place, _ in wishes:
        if not 0 <= place < len(lying):
            raise NoNumber(place)
    need_names(fence, [*[name for _, name in wishes], *hidden])
    wanted = {at: name for at, name in wishes}
    return [
        [name for name in here if name not in hidden and wanted.get(at, name) == name]
        for at, here in enumerate(lying)
    ]


def how_many_with(fence, wishes, hidden):
    return how_many_allowed(fence, as_wished(fence, wishes, hidden))


def nth_with(fence, wishes, hidden, number):
    return nth_allowed(fence, as_wished(fence, wishes, hidden), number)


def shown_with(fence, wishes, hidden):
    paths = ways_on(fence, as_wished(fence, wishes, hidden))
    counts = how_many_from(paths, ())
    return tuple([
        tuple(sorted({name for ways in list(moves.values()) for name, after in ways.items() if behind[after] > 0}))
        for moves, behind in zip(paths, counts[1:])
    ])


def how_many_show(fence):
    many = how_many_looks(fence)
    return tuple([(name, many - how_many_with(fence, (), (name,))) for name in names(fence)])
