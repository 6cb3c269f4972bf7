"""is_fence, is_case and is_history with things of all kinds."""

import unittest

from lastpasted.bills import is_fence
from lastpasted.cases import is_case, is_history
from tests.support import FAR, LONE, Case, name, number, spoiled

PLANK = (("a", 1, 6), ("b", 4, 9), ("c", 2, 5), ("d", 12, 12))
TIMBER = PLANK[:3]
ROW = ("b", 0, "c", "a", 1)
TOLD = ((0, 5, "b"), (1, 3, "a"), (1, 8, "b"), (1, 20, "-"))
FACTS = (("before", "b", "c"), ("not", 0, "a"), ("there", 1, "a"), ("there", 1, "c"))
TALE = (TIMBER, 2, TOLD, FACTS)
def triples(thing):
    return type(thing) is tuple and all(type(part) is tuple and len(part) == 3 for part in thing)


def ascending(thing):
    return list(thing) == sorted(set(thing))


def fence_said(thing):
    """What the document says of a FENCE, said once more in other words."""
    if not triples(thing):
        return False
    for one, first, last in thing:
        if not (name(one) and number(first) and number(last) and not last < first):
            return False
    return ascending(thing) and len({one for one, first, last in thing}) == len(thing)


def telling_said(fence, photos, thing):
    photo, cell, seen = thing
    if not (number(photo) and number(cell) and type(seen) is str and 0 <= photo < photos):
        return False
    return seen == "-" or any(bill[0] == seen and bill[1] <= cell <= bill[2] for bill in fence)


def fact_said(fence, photos, thing):
    word, one, other = thing
    if type(word) is not str or not name(other):
        return False
    known = [bill[0] for bill in fence]
    if word == "before":
        return name(one) and one in known and other in known and one != other
    return word in ["there", "not"] and number(one) and 0 <= one < photos and other in known


def case_said(thing):
    if type(thing) is not tuple or len(thing) != 4:
        return False
    fence, photos, told, facts = thing
    if not (fence_said(fence) and number(photos) and photos >= 0 and triples(told) and triples(facts)):
        return False
    if not all(telling_said(fence, photos, part) for part in told):
        return False
    return all(fact_said(fence, photos, part) for part in facts) and ascending(told) and ascending(facts)


def history_said(fence, photos, thing):
    if type(thing) is not tuple or not all(name(part) or number(part) for part in thing):
        return False
    if sorted([part for part in thing if name(part)]) != sorted([bill[0] for bill in fence]):
        return False
    return photos < 100 and [part for part in thing if number(part)] == list(range(photos))


class Fences(Case):
    def test_fences(self):
        for fence in ((), PLANK, (("a", 0, 0),), (("a", -FAR, FAR),), (("abcdefgh", 3, 4), ("b", 3, 4)),
                      (("a", 9, 9), ("aa", 8, 8), ("b", 7, 7)), (("a", -FAR ** 5, FAR ** 5),)):
            self.check(is_fence(fence), True)
            self.check(is_fence(thing=fence), True)

    def test_longer_than_the_bounds(self):
        self.check(is_fence(tuple([(sign, 0, 0) for sign in "abcdefghijklmnopqrstuvwxyz"])), True)

    def test_no_fences(self):
        for thing in ([], [["a", 1, 2]], (["a", 1, 2],), [("a", 1, 2)], ("a", 1, 2), (("a", 1),), (("a", 1, 2, 3),),
                      (("a", 2, 1),), (("a", True, 2),), (("a", 0, True),), (("a", False, 0),), (("a", 1, "2"),),
                      ((1, 1, 2),), (("", 1, 2),), (("A", 1, 2),), (("-", 1, 2),), (("a1", 1, 2),), (("\u00e4", 1, 2),),
                      (("abcdefghi", 1, 2),), ((None, 1, 2),), (("a", None, 2),), (("a", 1, 2), ("a", 1, 2)),
                      (("a", 1, 2), ("a", 3, 4)), (("a", 3, 4), ("b", 1, 2), ("a", 5, 6)), (("b", 1, 2), ("a", 3, 4)),
                      ("abc",), "abc", None, True, False, 0, FAR, (("a", 1, 2), None), ((),),
                      (("aa", 1, 2), ("a", 3, 4))):
            self.check(is_fence(thing), False)

    def test_spoiled_fences(self):
        found = [0, 0]
        for fence in (PLANK, (("a", 0, 1),), ()):
            for thing in spoiled(fence):
                self.assertIs(is_fence(thing), fence_said(thing), repr(thing))
                found[fence_said(thing)] += 1
        self.assertGreater(min(found), 30)


class Cases(Case):
    def test_cases(self):
        for case in (TALE, ((), 0, (), ()), ((), 3, ((2, -FAR, "-"),), ()), (TIMBER, 0, (), (("before", "c", "a"),)),
                     (TIMBER, FAR ** 2, ((FAR, 2, "c"),), (("not", FAR, "a"), ("there", FAR ** 2 - 1, "a")))):
            self.check(is_case(case), True)
            self.check(is_case(thing=case), True)

    def test_more_than_the_bounds(self):
        told = tuple([(photo, cell, "-") for photo in range(9) for cell in range(9)])
        facts = tuple([(word, photo, name) for word in ("not", "there") for photo in range(9) for name in "abc"])
        self.check(is_case((TIMBER, 9, told, facts)), True)

    def test_a_telling_s_name_must_lie_over_its_cell(self):
        for cell, seen, wanted in ((1, "a", True), (6, "a", True), (0, "a", False), (7, "a", False), (7, "b", True),
                                   (2, "b", False), (2, "d", False), (2, "-", True), (99, "-", True), (2, "", False)):
            self.check(is_case((TIMBER, 1, ((0, cell, seen),), ())), wanted)

    def test_a_telling_s_photo_must_be_there(self):
        for photo, wanted in ((0, True), (1, True), (2, False), (-1, False), (FAR, False), (True, False),
                              (False, False)):
            self.check(is_case((TIMBER, 2, ((photo, 1, "a"),), ())), wanted)
            self.check(is_case((TIMBER, 2, (), (("there", photo, "a"),))), wanted)
            self.check(is_case((TIMBER, 2, (), (("not", photo, "a"),))), wanted)

    def test_no_facts(self):
        for fact in (("before", "a", "a"), ("before", "a", "d"), ("before", "d", "a"), ("before", 0, "a"),
                     ("before", "a", 0), ("there", "a", "b"), ("there", 0, "d"), ("not", 0, 0), ("after", "a", "b"),
                     ("there", 0), ("there", 0, "a", "b"), ["there", 0, "a"], ("Before", "a", "b"), (0, "before", "a"),
                     ("not", 0, "-"), ("not", None, "a"), (["not"], 0, "a"), ("there", (0,), "a"), None, "not"):
            self.check(is_case((TIMBER, 1, (), (fact,))), False)

    def test_sets_must_ascend(self):
        self.check(is_case((TIMBER, 2, TOLD[::-1], FACTS)), False)
        self.check(is_case((TIMBER, 2, TOLD, FACTS[::-1])), False)
        self.check(is_case((TIMBER, 2, TOLD[:1] + TOLD[:1], ())), False)
        self.check(is_case((TIMBER, 2, (), FACTS[:1] + FACTS[:1])), False)
        self.check(is_case((TIMBER, 2, ((0, 5, "-"), (0, 5, "b")), ())), True)
        self.check(is_case((TIMBER, 2, ((0, 5, "b"), (0, 5, "-")), ())), False)
        self.check(is_case((TIMBER, 2, (), (("there", 0, "a"), ("not", 0, "a")))), False)

    def test_photos(self):
        for photos, wanted in ((0, True), (1, True), (FAR, True), (-1, False), (-FAR, False), (True, False),
                               (False, False), (None, False), ("1", False), ((1,), False), ([], False)):
            self.check(is_case((TIMBER, photos, (), ())), wanted)

    def test_lists_are_no_tuples(self):
        self.check(is_case(list(TALE)), False)
        for at in (0, 2, 3):
            for made in (list(TALE[at]), tuple([list(part) for part in TALE[at]])):
                self.check(is_case(TALE[:at] + (made,) + TALE[at + 1:]), False)
        self.check(is_case(([], 0, (), ())), False)
        self.check(is_case(((), 0, [], ())), False)
        self.check(is_case(((), 0, (), [])), False)

    def test_lone_things(self):
        for thing in LONE:
            self.check(is_case(thing), False)

    def test_spoiled_cases(self):
        found = [0, 0]
        for case in (TALE, (TIMBER, 1, ((0, 1, "a"),), (("there", 0, "b"),)), ((), 0, (), ())):
            for thing in spoiled(case):
                self.assertIs(is_case(thing), case_said(thing), repr(thing))
                found[case_said(thing)] += 1
        self.assertGreater(min(found), 50)


class Histories(Case):
    def check_history(self, fence, photos, thing, wanted):
        self.check_all_ways(is_history, wanted, fence=fence, photos=photos, thing=thing)

    def test_histories(self):
        self.check_history(TIMBER, 2, ROW, True)
        self.check_history(TIMBER, 0, ("c", "a", "b"), True)
        self.check_history(TIMBER, 3, (0, 1, 2, "c", "a", "b"), True)
        self.check_history(TIMBER, 3, ("b", "a", "c", 0, 1, 2), True)
        self.check_history((), 0, (), True)
        self.check_history((), 2, (0, 1), True)
        self.check_history((), 20, tuple(range(20)), True)

    def test_no_histories(self):
        for thing in (("b", 1, "c", "a", 0), ("b", 0, "c", "a"), ("b", 0, 1, "c"), ("b", 0, "c", "a", 1, 2),
                      ("b", 0, "c", "a", 1, "a"), ("b", 0, "c", "a", 1, "d"), ("b", 0, 0, "c", "a", 1), (0, 1),
                      ("b", 1, "c", "a", 2), ("b", -1, "c", "a", 0), ("b", 0, "c", "a", FAR), ("b", "c", "a"),
                      ("b", False, "c", "a", True), ("b", 0, "c", "a", True), ("b", False, "c", "a", 1),
                      ("b", 0, "c", "a", 1, None), ("b", 0, "c", "a", "1"), ("b", 0, "c", "a", (1,)),
                      ("b", 0, "c", "A", 1), ("b", 0, "c", "d", 1), ("b", 0, "a", "a", 1), (), ("b", 0, "c", "", 1),
                      list(ROW), [ROW], (ROW,), None, True, 0, "b0ca1", "bca"):
            self.check_history(TIMBER, 2, thing, False)

    def test_how_many_photos(self):
        for photos in (0, 1, 3, 8, FAR):
            self.check_history(TIMBER, photos, ROW, False)
        self.check_history(TIMBER, FAR, ("b", "c", "a"), False)
        self.check_history((), FAR, (), False)
        self.check_history((), 1, (), False)
        self.check_history((), 0, (0,), False)

    def test_a_fence_beyond_the_bounds(self):
        fence = tuple([(sign, -FAR ** 2, FAR ** 2) for sign in "abcdefghijklmnopqrstuvwxyz"])
        row = tuple([bill[0] for bill in fence])
        self.check_history(fence, 1, row[::-1] + (0,), True)
        self.check_history(fence, 1, row[:-1] + (0,), False)

    def test_spoiled_histories(self):
        found = [0, 0]
        for photos, history in ((2, ROW), (0, ("a", "b", "c")), (3, (0, "c", 1, "a", "b", 2))):
            for thing in spoiled(history):
                self.assertIs(is_history(TIMBER, photos, thing), history_said(TIMBER, photos, thing), repr(thing))
                found[history_said(TIMBER, photos, thing)] += 1
        self.assertGreater(min(found), 10)


if __name__ == "__main__":
    unittest.main()
