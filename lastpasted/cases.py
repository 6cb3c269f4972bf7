"""PHOTOs, HISTORYs, and the CASEs that tell of them."""

from lastpasted.bills import is_fence, lies_over, names, need_names, over, pieces
from lastpasted.errors import NoName, NoPhoto, NotOver
from lastpasted.forms import as_tuples, is_ascending, is_name, is_number, is_triple

NONE_SEEN = "-"


def is_photo(photos, thing):
    return is_number(thing) and 0 <= thing < photos


def is_telling(fence, photos, thing):
    if not is_triple(thing):
        return False
    photo, cell, seen = thing
    if not is_photo(photos, photo) or not is_number(cell):
        return False
    return seen == NONE_SEEN or seen in over(fence, cell)


def is_fact(fence, photos, thing):
    if not is_triple(thing):
        return False
    word, one, other = thing
    known = names(fence)
    if word == "before":
        return one in known and other in known and one != other
    return word in ("there", "not") and is_photo(photos, one) and other in known


def is_told(fence, photos, thing):
    if not isinstance(thing, tuple) or not all([is_telling(fence, photos, part) for part in thing]):
        return False
    return is_ascending(thing)


def is_facts(fence, photos, thing):
    if not isinstance(thing, tuple) or not all([is_fact(fence, photos, part) for part in thing]):
        return False
    return is_ascending(thing)


def is_case_but_for_told(thing):
    """Whether thing is like a CASE, whatever stands in the place of its TELLINGS."""
    if not isinstance(thing, tuple) or len(thing) != 4:
        return False
    fence, photos, _, facts = thing
    if not is_fence(fence) or not is_number(photos) or photos < 0:
        return False
    return is_facts(fence, photos, facts)


def is_case(thing):
    return is_case_but_for_told(thing) and is_told(thing[0], thing[1], thing[2])


def photos_in(history):
    return [part for part in history if is_number(part)]


def names_in(history):
    return [part for part in history if not is_number(part)]


def is_history(fence, photos, thing):
    if not isinstance(thing, tuple) or not all([is_name(part) or is_number(part) for part in thing]):
        return False
    if tuple(sorted(names_in(thing))) != names(fence):
        return False
    # There may be far more PHOTOs than can be counted through: the numbers that stand there decide.
    numbers = photos_in(thing)
    return len(numbers) == photos and numbers == list(range(len(numbers)))


def row_at(history, photo):
    """The NAMEs that stand ahead of this PHOTO, in the order of the HISTORY."""
    if photo not in history:
        raise NoPhoto(photo)
    return names_in(history[:history.index(photo)])


def there_at(history, photo):
    return tuple(sorted(row_at(history, photo)))


def slot_of(history, name):
    if name not in history:
        raise NoName(name)
    return len(photos_in(history[:history.index(name)]))


def last_over(fence, row, cell):
    """The last NAME of the row whose BILL lies over the CELL."""
    known = over(fence, cell)
    lying = [name for name in row if name in known]
    return lying[-1] if lying else NONE_SEEN


def seen_at(fence, history, photo, cell):
    return last_over(fence, row_at(history, photo), cell)


def seen_on(fence, history, photo):
    row = row_at(history, photo)
    return tuple([last_over(fence, row, piece[0]) for piece in pieces(fence)])


def telling_is_so(fence, history, telling):
    photo, cell, seen = telling
    return seen_at(fence, history, photo, cell) == seen


def fact_is_so(history, fact):
    word, one, other = fact
    if word == "before":
        return history.index(one) < history.index(other)
    return (other in there_at(history, one)) == (word == "there")


def fits(case, history):
    return wrong_in(case, history) == ((), ())


def wrong_in(case, history):
    fence, _, told, facts = as_tuples(case)
    tellings = tuple([telling for telling in told if not telling_is_so(fence, history, telling)])
    return (tellings, tuple([fact for fact in facts if not fact_is_so(history, fact)]))


def need_photo(photos, photo):
    if not 0 <= photo < photos:
        raise NoPhoto(photo)


def put_in(members, member):
    """The set with this member, which may stand there already."""
    return members if member in members else tuple(sorted([*members, member]))


def with_telling(case, photo, cell, seen):
    fence, photos, told, facts = as_tuples(case)
    need_photo(photos, photo)
    if seen != NONE_SEEN and not lies_over(fence, seen, cell):
        raise NotOver(seen, cell)
    return (fence, photos, put_in(told, (photo, cell, seen)), facts)


def with_fact(case, fact):
    fence, photos, told, facts = as_tuples(case)
    word, one, other = fact
    if word == "before":
        need_names(fence, (one, other))
    else:
        need_photo(photos, one)
        need_names(fence, (other,))
    return (fence, photos, told, put_in(facts, (word, one, other)))


def with_photo(case):
    fence, photos, told, facts = as_tuples(case)
    return (fence, photos + 1, told, facts)


def photographed(fence, history):
    photos = len(photos_in(history))
    told = [
        (photo, piece[0], seen)
        for photo in range(photos)
        for piece, seen in zip(pieces(fence), seen_on(fence, history, photo))
    ]
    return (as_tuples(fence), photos, tuple(told), ())
