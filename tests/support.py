"""What several test files need."""

import copy
import unittest

from lastpasted import errors

FIELDS = {
    "NoName": ("name",),
    "NoPhoto": ("photo",),
    "NoNumber": ("number",),
    "NothingDone": (),
    "NoHistory": (),
    "NotOver": ("name", "cell"),
    "Twice": ("name",),
    "BadText": (),
    "BadLine": ("number",),
}


def as_lists(value):
    """The value with lists in the place of tuples, at every depth."""
    if isinstance(value, (list, tuple)):
        return [as_lists(part) for part in value]
    return value


def same(one, other):
    """Equal, and of the same kinds throughout: True is not 1, a list is no tuple."""
    if type(one) is not type(other):
        return False
    if isinstance(one, (list, tuple)):
        return len(one) == len(other) and all(same(a, b) for a, b in zip(one, other))
    return one == other


class Case(unittest.TestCase):
    def check(self, got, wanted):
        self.assertTrue(same(got, wanted), f"got {got!r}, wanted {wanted!r}")

    def refused(self, error_name, fields, call, *args, **named):
        """The call raises just this error, with just these fields."""
        error_class = getattr(errors, error_name)
        with self.assertRaises(error_class) as caught:
            call(*args, **named)
        self.assertIs(type(caught.exception), error_class)
        for field in FIELDS[error_name]:
            self.check(getattr(caught.exception, field), fields[field])
        self.assertEqual(set(FIELDS[error_name]), set(fields))

    def check_all_ways(self, call, wanted, **named):
        """The call gives this by position, by names, with lists for tuples, twice, and changes nothing."""
        kept = copy.deepcopy(named)
        self.check(call(*named.values()), wanted)
        self.check(call(**named), wanted)
        self.check(call(**dict(reversed(list(named.items())))), wanted)
        self.check(call(**named), wanted)
        self.check_kept(named, kept)
        listed = {
            word: value if word == "thing" else as_lists(value) for word, value in named.items()
        }
        kept = copy.deepcopy(listed)
        self.check(call(*listed.values()), wanted)
        self.check(call(**listed), wanted)
        self.check(call(**listed), wanted)
        self.check_kept(listed, kept)

    def refused_all_ways(self, error_name, fields, call, **named):
        """The call raises this by position, by names and with lists for tuples, and changes nothing."""
        listed = {
            word: value if word == "thing" else as_lists(value) for word, value in named.items()
        }
        for given in (named, listed):
            kept = copy.deepcopy(given)
            self.refused(error_name, fields, call, *given.values())
            self.refused(error_name, fields, call, **given)
            self.check_kept(given, kept)

    def check_kept(self, given, kept):
        self.assertEqual(list(given), list(kept))
        for word in given:
            self.check(given[word], kept[word])
