"""TELLINGS that must be wrong: COREs that no HISTORY fits, and what must be left out to clear a CASE."""

from lastpasted.errors import NoHistory
from lastpasted.forms import as_tuples, is_ascending, stands_in, subsets
from lastpasted.latest import can_fit


def telling_just(case, told):
    """The CASE with these TELLINGS in the place of its own."""
    fence, photos, _, facts = as_tuples(case)
    return (fence, photos, told, facts)


def need_facts(case):
    """Raise NoHistory if no HISTORY fits the FACTs alone."""
    if not can_fit(telling_just(case, ())):
        raise NoHistory()


def all_but(told, gone):
    return tuple([telling for telling in told if telling not in gone])


def left_out(case, gone):
    need_facts(case)
    return telling_just(case, all_but(as_tuples(case[2]), as_tuples(gone)))


def a_core(case):
    need_facts(case)
    if can_fit(case):
        return None
    told = as_tuples(case[2])
    core = told
    # Who can't be spared now can't be spared with fewer others either: each one is asked once.
    for telling in told:
        less = all_but(core, (telling,))
        if not can_fit(telling_just(case, less)):
            core = less
    return core


def is_core(case, thing):
    need_facts(case)
    told = as_tuples(case[2])
    if not isinstance(thing, tuple) or not all([stands_in(told, part) for part in thing]) or not is_ascending(thing):
        return False
    if can_fit(telling_just(case, thing)):
        return False
    # With fewer TELLINGS more HISTORYs fit: if one less is enough, so are all sets of still fewer.
    return all([can_fit(telling_just(case, all_but(thing, (part,)))) for part in thing])


def sets_by_size(members):
    """All sets of these, those of fewer first, of as many the least one first."""
    return sorted(sorted(subsets(members)), key=len)


def lies_in(some, members):
    return all([part in members for part in some])


def all_cores(case):
    need_facts(case)
    cores = []
    for some in sets_by_size(as_tuples(case[2])):
        # What no HISTORY fits and has no CORE of fewer in it is a CORE.
        if not any([lies_in(core, some) for core in cores]) and not can_fit(telling_just(case, some)):
            cores.append(some)
    return cores


def fewest_wrong(case):
    return len(least_wrong(case))


def least_wrong(case):
    return all_least_wrong(case)[0]


def all_least_wrong(case):
    cores = all_cores(case)
    clearing = [
        some for some in sets_by_size(as_tuples(case[2]))
        if all([any([part in some for part in core]) for core in cores])
    ]
    return [some for some in clearing if len(some) == len(clearing[0])]


def surely_wrong(case):
    # All others can be left out instead of a TELLING, unless it is a CORE alone.
    return tuple([core[0] for core in all_cores(case) if len(core) == 1])


def suspects(case):
    cores = all_cores(case)
    return tuple([telling for telling in as_tuples(case[2]) if any([telling in core for core in cores])])


def trusted(case):
    return all_but(as_tuples(case[2]), suspects(case))
