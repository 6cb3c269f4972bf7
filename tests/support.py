"""What several test files need."""

import copy
import itertools
import random
import re
import unittest

from lastpasted import errors

FAR = 10 ** 40

FIELDS = {
    "NoName": ("name",),
    "NoPhoto": ("photo",),
    "NoNumber": ("number",),
    "NothingDone": (),
    "NoHistory": (),
    "NotOver": ("name", "cell"),
    "Twice": ("name",),
    "BadText": (),
    "BadLine": ("number",),
}

LONE = (None, True, False, 0, 1, -1, FAR ** 3, -(FAR ** 3), "", "-", "a", "b", "ab", "A", "a1", "\u00e4", "a b", "a\n",
        "abcdefgh", "abcdefghi", "before", "there", "not", "x" * 5000, (), [], ((),), [[]],
        (((((((((((),),),),),),),),),),), ("a",), ["a"], (1, 2), ("a", 1), ("a", 1, 6), ("a", 1, 6, 7), ("a", "b", "c"),
        (0, 5, "b"), (0, 1, 2))


def number(thing):
    return type(thing) is int


def name(thing):
    return type(thing) is str and re.fullmatch("[a-z]{1,8}", thing) is not None


def as_lists(value):
    """The value with lists in the place of tuples, at every depth."""
    if isinstance(value, (list, tuple)):
        return [as_lists(part) for part in value]
    return value


def same(one, other):
    """Equal, and of the same kinds throughout: True is not 1, a list is no tuple."""
    if type(one) is not type(other):
        return False
    if isinstance(one, (list, tuple)):
        return len(one) == len(other) and all(same(a, b) for a, b in zip(one, other))
    return one == other


def spoiled(value):
    """The value with one change somewhere: left out, doubled, exchanged, made a list, another thing, and so on."""
    yield from LONE
    if number(value):
        yield from (value + 1, value - 1, value + FAR ** 2, value - FAR ** 2, bool(value), str(value), (value,))
    elif isinstance(value, str):
        yield from (value + "a", value + "-", value + "1", value.upper(), value * 9, value[:-1], (value,), [value])
    elif isinstance(value, tuple):
        yield list(value)
        yield as_lists(value)
        yield value[::-1]
        yield value + value
        yield (value,)
        for at, part in enumerate(value):
            yield value[:at] + value[at + 1:]
            yield value[:at] + (part,) + value[at:]
            yield value[:at] + (value[at - 1],) + value[at:]
            for change in spoiled(part):
                yield value[:at] + (change,) + value[at + 1:]
            for further in range(at + 1, len(value)):
                yield value[:at] + (value[further],) + value[at + 1:further] + (part,) + value[further + 1:]


def histories(known, photos):
    """All HISTORYs, by putting the PHOTOs into each row of the NAMEs."""
    for row in itertools.permutations(known):
        for slots in itertools.combinations_with_replacement(range(len(row) + 1), photos):
            history = list(row)
            for photo in reversed(range(photos)):
                history.insert(slots[photo], photo)
            yield tuple(history)


def small_fence(chance, known):
    return tuple([(name, *sorted([chance.randint(0, 6), chance.randint(0, 6)])) for name in known])


def names_over(fence, cell):
    return [name for name, first, last in fence if first <= cell <= last]


def top_said(fence, order, cell):
    """The last one in the ORDER of those over the CELL, "-" if there is none."""
    lying = names_over(fence, cell)
    return ([name for name in order if name in lying] or ["-"])[-1]


def small_cases(seed, many):
    """Small CASEs, always the same ones for the same seed."""
    chance = random.Random(seed)
    for _ in range(many):
        known, photos = "abcd"[:chance.randint(0, 4)], chance.randint(0, 2)
        fence = small_fence(chance, known)
        told, facts = set(), set()
        for _ in range(chance.randint(0, 5) if photos else 0):
            cell = chance.randint(-1, 7)
            told.add((chance.randrange(photos), cell, chance.choice(["-"] + names_over(fence, cell) * 2)))
        for word in chance.choices(["before", "there", "not"], k=chance.randint(0, 4)):
            if word == "before" and len(known) > 1:
                facts.add((word, *chance.sample(known, 2)))
            elif word != "before" and known and photos:
                facts.add((word, chance.randrange(photos), chance.choice(known)))
        yield (fence, photos, tuple(sorted(told)), tuple(sorted(facts)))


def great_case():
    """A CASE as great as the bounds let it be, and a HISTORY that fits it."""
    chance = random.Random(11)
    fence = tuple([(sign, *sorted([chance.randint(-FAR, FAR), chance.randint(-FAR, FAR)])) for sign in "abcdefghijkl"])
    history = list("fbkadlcgjhie")
    for photo, place in enumerate((0, 3, 4, 6, 8, 9, 12, 16)):
        history.insert(place, photo)
    told, facts = set(), set()
    for at in range(40):
        cell = chance.randint(-FAR, FAR)
        row = [part for part in history[:history.index(at // 5)] if part in names_over(fence, cell)]
        told.add((at // 5, cell, row[-1] if row else "-"))
    while len(facts) < 20:
        one, other = chance.sample("abcdefghijkl", 2)
        if history.index(one) < history.index(other):
            facts.add(("before", one, other))
    return (fence, 8, tuple(sorted(told)), tuple(sorted(facts))), tuple(history)


class Case(unittest.TestCase):
    def check(self, got, wanted):
        self.assertTrue(same(got, wanted), f"got {got!r}, wanted {wanted!r}")

    def refused(self, error_name, fields, call, *args, **named):
        """The call raises just this error, with just these fields."""
        error_class = getattr(errors, error_name)
        with self.assertRaises(error_class) as caught:
            call(*args, **named)
        self.assertIs(type(caught.exception), error_class)
        for field in FIELDS[error_name]:
            self.check(getattr(caught.exception, field), fields[field])
        self.assertEqual(set(FIELDS[error_name]), set(fields))

    def check_all_ways(self, call, wanted, **named):
        """The call gives this by position, by names, with lists for tuples, twice, and changes nothing."""
        kept = copy.deepcopy(named)
        self.check(call(*named.values()), wanted)
        self.check(call(**named), wanted)
        self.check(call(**dict(reversed(list(named.items())))), wanted)
        self.check(call(**named), wanted)
        self.check_kept(named, kept)
        listed = {
            word: value if word == "thing" else as_lists(value) for word, value in named.items()
        }
        kept = copy.deepcopy(listed)
        self.check(call(*listed.values()), wanted)
        self.check(call(**listed), wanted)
        self.check(call(**listed), wanted)
        self.check_kept(listed, kept)

    def refused_all_ways(self, error_name, fields, call, **named):
        """The call raises this by position, by names and with lists for tuples, and changes nothing."""
        listed = {
            word: value if word == "thing" else as_lists(value) for word, value in named.items()
        }
        for given in (named, listed):
            kept = copy.deepcopy(given)
            self.refused(error_name, fields, call, *given.values())
            self.refused(error_name, fields, call, **given)
            self.check_kept(given, kept)

    def check_kept(self, given, kept):
        self.assertEqual(list(given), list(kept))
        for word in given:
            self.check(given[word], kept[word])
