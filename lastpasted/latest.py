"""Who must be there at which PHOTO, and the latest HISTORY that fits a CASE."""

from lastpasted.bills import names, need_names, over
from lastpasted.cases import NONE_SEEN, fits, is_history, is_photo, need_photo, slot_of
from lastpasted.errors import NoHistory
from lastpasted.forms import as_tuples, is_number, is_pair, is_triple, ring_of, rising, stands_in


def said(known, name, photo):
    """Whether this BILL is known to be there at this PHOTO; known has the earliest PHOTO for each NAME."""
    return name in known and known[name] <= photo


def others_there(fence, telling, known):
    """The NAMEs of the BILLs over the cell, but the one seen, that are known to be there."""
    photo, cell, seen = telling
    return [name for name in over(fence, cell) if name != seen and said(known, name, photo)]


def told_by(fence, reason, known):
    """The pairs of a NAME and the earliest PHOTO at which its BILL must be there by this TELLING or FACT."""
    word, one, last = reason
    if is_number(word):
        if last == NONE_SEEN:
            return []
        # What is there but not seen lies below the one seen, so it is there as early as that one.
        below = others_there(fence, reason, known) if last in known else []
        return [(last, word), *[(name, known[last]) for name in below]]
    if word == "before":
        return [(one, known[last])] if last in known else []
    return [(last, one)] if word == "there" else []


def laid_by(fence, reason, known):
    """The pairs (lower, upper) of NAMEs whose BILLs lie so by this TELLING or FACT."""
    word, one, last = reason
    if is_number(word):
        return [(name, last) for name in others_there(fence, reason, known)] if last != NONE_SEEN else []
    return [(one, last)] if word == "before" else []


def broken_by(fence, reason, known):
    """Whether this TELLING or FACT bars a BILL that is known to be there."""
    word, one, last = reason
    if is_number(word):
        return last == NONE_SEEN and others_there(fence, reason, known) != []
    return word == "not" and said(known, last, one)


def earliest(steps):
    """The earliest PHOTO that these STEPs say for each NAME."""
    known = {}
    for name, photo, _ in steps:
        known[name] = min(photo, known.get(name, photo))
    return known


def all_steps(case):
    """STEPs, each following from those ahead of it, that say for each BILL as early a PHOTO as any STEPs do."""
    fence, _, told, facts = case
    steps = []
    known = {}
    before = None
    while before != len(steps):
        before = len(steps)
        for reason in told + facts:
            found = told_by(fence, reason, known)
            for name, photo in found:
                if not said(known, name, photo):
                    known[name] = photo
                    steps.append((name, photo, reason))
    return tuple(steps)


def first_ring(case, known):
    """A ring; None if there is none."""
    fence, _, told, facts = case
    laid = [(lower, upper, reason) for reason in told + facts for lower, upper in laid_by(fence, reason, known)]
    row = ring_of(names(fence), [(lower, upper) for lower, upper, _ in laid])
    reasons = {(lower, upper): reason for lower, upper, reason in laid}
    # [*row[1:], *row[:1]] has for each of them the next one.
    ring = tuple([(name, reasons[(lower, name)]) for name, lower in zip(row, [*row[1:], *row[:1]])])
    return ring if ring != () else None


def a_clash(case):
    case = as_tuples(case)
    fence, _, told, facts = case
    steps = all_steps(case)
    known = earliest(steps)
    for reason in told + facts:
        if broken_by(fence, reason, known):
            return (steps, reason)
    ring = first_ring(case, known)
    return None if ring is None else (steps, ring)


def can_fit(case):
    return a_clash(case) is None


def is_reason(case, thing):
    return stands_in(case[2], thing) or stands_in(case[3], thing)


def is_step(case, thing):
    if not is_triple(thing):
        return False
    name, photo, reason = thing
    return name in names(case[0]) and is_photo(case[1], photo) and is_reason(case, reason)


def follows(fence, known, step):
    name, photo, reason = step
    return any([other == name and first <= photo for other, first in told_by(fence, reason, known)])


def are_steps(case, thing):
    """Whether thing is a tuple of STEPs, each of which follows from those ahead of it."""
    if not isinstance(thing, tuple) or not all([is_step(case, step) for step in thing]):
        return False
    known = {}
    for step in thing:
        if not follows(case[0], known, step):
            return False
        known[step[0]] = min(step[1], known.get(step[0], step[1]))
    return True


def is_ring(case, known, thing):
    if not isinstance(thing, tuple) or len(thing) < 2 or not all([is_pair(pair) for pair in thing]):
        return False
    fence = case[0]
    if not all([name in names(fence) and is_reason(case, reason) for name, reason in thing]):
        return False
    if len({pair[0] for pair in thing}) < len(thing):
        return False
    nexts = [*thing[1:], thing[0]]
    return all([(lower[0], name) in laid_by(fence, reason, known) for (name, reason), lower in zip(thing, nexts)])


def is_clash(case, thing):
    case = as_tuples(case)
    if not is_pair(thing) or not are_steps(case, thing[0]):
        return False
    steps, end = thing
    known = earliest(steps)
    if is_reason(case, end):
        return broken_by(case[0], end, known)
    return is_ring(case, known, end)


def latest(case):
    case = as_tuples(case)
    if not can_fit(case):
        raise NoHistory()
    known = earliest(all_steps(case))
    return tuple([(name, known.get(name, case[1])) for name in names(case[0])])


def latest_history(case):
    case = as_tuples(case)
    fence, photos, told, facts = case
    slots = dict(latest(case))
    known = earliest(all_steps(case))
    row = rising(names(fence), [pair for reason in told + facts for pair in laid_by(fence, reason, known)])
    history = []
    for slot in range(photos + 1):
        history.extend([name for name in row if slots[name] == slot])
        history.append(slot)
    # Behind the last PHOTO there is a last SLOT, but no PHOTO.
    return tuple(history[:-1])


def is_latest_history(case, thing):
    case = as_tuples(case)
    slots = latest(case)
    if not is_history(case[0], case[1], thing) or not fits(case, thing):
        return False
    return all([slot_of(thing, name) == slot for name, slot in slots])


def need_bill_and_photo(case, name, photo):
    need_names(case[0], (name,))
    need_photo(case[1], photo)


def why_there(case, name, photo):
    case = as_tuples(case)
    need_bill_and_photo(case, name, photo)
    steps = all_steps(case)
    for at, step in enumerate(steps):
        if step[0] == name and step[1] <= photo:
            return steps[:at + 1]
    return None


def is_why_there(case, name, photo, thing):
    case = as_tuples(case)
    need_bill_and_photo(case, name, photo)
    if not are_steps(case, thing) or thing == ():
        return False
    return thing[-1][0] == name and thing[-1][1] <= photo
