"""What all files need to tell kinds of values apart and to copy them."""


def is_number(thing):
    # A bool is an int for Python, but no number here.
    return isinstance(thing, int) and not isinstance(thing, bool)


def is_name(thing):
    if not isinstance(thing, str) or not 1 <= len(thing) <= 8:
        return False
    return all(["a" <= sign <= "z" for sign in thing])


def is_triple(thing):
    return isinstance(thing, tuple) and len(thing) == 3


def is_ascending(rows):
    """Whether each of these, all of one kind, is greater than the one ahead of it."""
    return all([low < high for low, high in zip(rows, rows[1:])])


def as_tuples(value):
    """The value with tuples in the place of lists, at every depth."""
    if isinstance(value, (list, tuple)):
        return tuple([as_tuples(part) for part in value])
    return value
