"""Loose CASEs: against all possible FENCEs with all HISTORYs, edges, wrong inputs."""

import itertools
import random
import unittest

from lastpasted import cases, lost
from tests.support import FAR, LONE, Case, histories, name, number, spoiled

SCRAPS = ((("a", 1, 2), ("b", 6, 7)), 1, ((0, 4, "a"), (0, 5, "b"), (0, 9, "-")), ())
TWICE = ((("a", 1, 2), ("b", 6, 7)), 1, ((0, 1, "b"), (0, 6, "a")), ())
FREE = ((("a", 1, 2), ("b", 6, 7)), 1, (), (("before", "b", "a"), ("there", 0, "a")))
NOTHING = ((), 0, (), ())
EMPTY = ((), 2, ((0, 3, "-"), (1, 4, "-")), ())
WRONG = ((("a", 1, 2), ("b", 6, 7)), 1, (), (("not", 0, "a"), ("there", 0, "a")))
GREAT = ((("a", -FAR, -FAR), ("b", 0, 0)), 1, ((0, 0, "b"), (0, FAR, "a")), ())


def ascending(thing):
    return list(thing) == sorted(set(thing))


def loose_said(thing):
    """What the document says of a loose CASE: only a TELLING's BILL need not lie over its cell."""
    if type(thing) is not tuple or len(thing) != 4 or type(thing[2]) is not tuple:
        return False
    fence, photos, told, facts = thing
    if not cases.is_case((fence, photos, (), facts)):
        return False
    for part in told:
        if type(part) is not tuple or len(part) != 3:
            return False
        photo, cell, seen = part
        if not (number(photo) and number(cell) and type(seen) is str and 0 <= photo < photos):
            return False
        if seen != "-" and seen not in [bill[0] for bill in fence]:
            return False
    return ascending(told)


def bounds_said(case, thing):
    if type(thing) is not tuple or not all(type(part) is tuple and len(part) == 3 for part in thing):
        return False
    for one, low, high in thing:
        bill = [bill for bill in case[0] if name(one) and bill[0] == one]
        if not bill or not number(low) or not number(high) or not (low <= bill[0][1] and bill[0][2] <= high):
            return False
    return ascending([part[0] for part in thing])


class Kinds(Case):
    def test_is_loose_case(self):
        for thing, wanted in ((SCRAPS, True), (TWICE, True), (NOTHING, True), (EMPTY, True), (WRONG, True),
                              (list(SCRAPS), False), (SCRAPS[:3], False), (SCRAPS[:2] + (SCRAPS[2][::-1], ()), False),
                              (SCRAPS[:2] + (((0, 4, "c"),), ()), False), (SCRAPS[:2] + (((1, 4, "a"),), ()), False),
                              (SCRAPS[:2] + (((0, 400, "a"),), ()), True), (SCRAPS[:2] + ([], ()), False),
                              (SCRAPS[:2] + (((False, 4, "a"),), ()), False), (SCRAPS[:2] + ((), []), False),
                              (SCRAPS[:2] + (((0, True, "a"),), ()), False), (SCRAPS[:2] + (((0, 4),), ()), False),
                              (SCRAPS[:2] + (((0, 4, "a"), (0, 4, "a")), ()), False),
                              (SCRAPS[:2] + ((), (("there", 1, "a"),)), False), ((((),), 1, (), ()), False),
                              ((SCRAPS[0], -1, (), ()), False), ((SCRAPS[0], True, (), ()), False)):
            self.check_all_ways(lost.is_loose_case, wanted, thing=thing)
        for thing in LONE:
            self.check(lost.is_loose_case(thing), False)
            self.check(lost.is_loose_case(SCRAPS[:2] + ((thing,), ())), thing == (0, 5, "b"))
            self.check(lost.is_loose_case(SCRAPS[:2] + (((0, 4, thing),), ())), thing in ("-", "a", "b"))

    def test_spoiled_loose_cases(self):
        found = [0, 0]
        for case in (SCRAPS, FREE, EMPTY):
            for thing in spoiled(case):
                self.assertIs(lost.is_loose_case(thing), loose_said(thing), repr(thing))
                found[loose_said(thing)] += 1
        self.assertGreater(min(found), 50)

    def test_is_bounds(self):
        for thing, wanted in (((), True), ((("a", 2, 5),), False), ((("c", 1, 5),), False), ((("a", 1, 2),), True),
                              ((("a", 1, 1),), False), ((("a", -FAR, FAR), ("b", 6, 7)), True), ([], False),
                              ((("b", 6, 7), ("a", 1, 2)), False), ((("a", 1, 2), ("a", 1, 3)), False),
                              ((("a", 1, 2), ("a", 1, 2)), False), ((["a", 1, 2],), False), ((("a", 1),), False),
                              ((("a", True, 2),), False), ((("a", 1, 2, 3),), False), (("a", 1, 2), False),
                              ((("a", None, 2),), False), ((("a", 1, "2"),), False), (((["a"], 1, 2),), False)):
            self.check_all_ways(lost.is_bounds, wanted, case=SCRAPS, thing=thing)
        for thing in LONE:
            self.check(lost.is_bounds(SCRAPS, thing), type(thing) is tuple and thing == ())
            self.check(lost.is_bounds(SCRAPS, (thing,)), thing == ("a", 1, 6))
            self.check(lost.is_bounds(NOTHING, thing), type(thing) is tuple and thing == ())

    def test_spoiled_bounds(self):
        found = [0, 0]
        for thing in spoiled((("a", 0, 5), ("b", 6, 10))):
            self.assertIs(lost.is_bounds(SCRAPS, thing), bounds_said(SCRAPS, thing), repr(thing))
            found[bounds_said(SCRAPS, thing)] += 1
        self.assertGreater(min(found), 5)


class Fences(Case):
    def test_least_fence(self):
        for case, bounds, wanted in ((SCRAPS, (), (("a", 1, 4), ("b", 5, 7))), (SCRAPS, (("a", 1, 3),), None),
                                     (SCRAPS, (("a", 1, 4), ("b", 5, 7)), (("a", 1, 4), ("b", 5, 7))),
                                     (SCRAPS, (("a", 1, 4), ("b", 6, 7)), None),
                                     (TWICE, (), (("a", 1, 6), ("b", 1, 7))),
                                     (FREE, (), FREE[0]), (NOTHING, (), ()), (EMPTY, (), ()), (WRONG, (), WRONG[0]),
                                     (GREAT, (), (("a", -FAR, FAR), ("b", 0, 0)))):
            self.check_all_ways(lost.least_fence, wanted, case=case, bounds=bounds)

    def test_can_hold(self):
        for case, bounds, wanted in ((SCRAPS, (), True), (SCRAPS, (("a", 1, 3),), False), (TWICE, (), False),
                                     (FREE, (), True), (NOTHING, (), True), (EMPTY, (), True), (WRONG, (), False),
                                     (SCRAPS, (("a", -FAR, 4),), True), (GREAT, (), True),
                                     (GREAT, (("a", -FAR, FAR - 1),), False)):
            self.check_all_ways(lost.can_hold, wanted, case=case, bounds=bounds)

    def test_surely_over(self):
        for case, bounds, name, cell, wanted in ((SCRAPS, (), "a", 3, True), (SCRAPS, (), "a", 5, False),
                                                 (TWICE, (), "a", 2, None), (SCRAPS, (), "b", 5, True),
                                                 (SCRAPS, (), "b", 8, False), (SCRAPS, (("a", 1, 3),), "b", 6, None),
                                                 (SCRAPS, (), "a", 0, False), (WRONG, (), "a", 1, None),
                                                 (GREAT, (), "a", 10 ** 39, True), (GREAT, (), "b", FAR, False)):
            self.check_all_ways(lost.surely_over, wanted, case=case, bounds=bounds, name=name, cell=cell)

    def test_may_lie(self):
        for case, bounds, name, first, last, wanted in (
                (SCRAPS, (), "a", 0, 5, True), (SCRAPS, (), "a", 0, 9, False), (SCRAPS, (), "a", 1, 3, False),
                (SCRAPS, (), "a", 1, 4, True), (SCRAPS, (), "a", 2, 4, False),
                (SCRAPS, (("a", 0, 4),), "a", 0, 4, True),
                (SCRAPS, (("a", 0, 4),), "a", -1, 4, False), (SCRAPS, (("a", 0, 4),), "a", 0, 5, False),
                (SCRAPS, (("b", 6, 7),), "a", 1, 4, False), (TWICE, (), "a", 1, 6, False),
                (SCRAPS, (), "b", 4, 9, False), (SCRAPS, (), "b", 4, 8, True), (WRONG, (), "a", 1, 2, False),
                (SCRAPS, (), "a", -FAR, 8, True), (SCRAPS, (), "a", 5, 5, False)):
            self.check_all_ways(lost.may_lie, wanted,
                                case=case, bounds=bounds, name=name, first=first, last=last)

    def test_reach(self):
        for case, bounds, name, wanted in ((SCRAPS, (), "a", (None, 8)), (SCRAPS, (("a", -3, 5),), "a", (-3, 5)),
                                           (SCRAPS, (), "b", (None, 8)), (SCRAPS, (("a", 1, 3),), "b", None),
                                           (TWICE, (), "a", None), (FREE, (), "a", (None, None)),
                                           (FREE, (("a", -FAR, 2),), "a", (-FAR, 2)), (WRONG, (), "b", None),
                                           (SCRAPS, (("a", 1, 8),), "a", (1, 8)), (SCRAPS, (("a", 1, 9),), "a", (1, 8)),
                                           (GREAT, (), "b", (None, FAR - 1)), (GREAT, (), "a", (None, None))):
            self.check_all_ways(lost.reach, wanted, case=case, bounds=bounds, name=name)

    def test_an_end_between_two_tellings(self):
        case = ((("a", 0, 0), ("b", -9, -9)), 2, ((0, -7, "-"), (0, 6, "-"), (1, 4, "-")), (("there", 0, "b"),))
        # At the first PHOTO a need not be there: only the second one bars it, further to the left than the first.
        self.check(lost.reach(case, (), "a"), (None, None))
        case = case[:3] + ((("there", 1, "a"), ("there", 0, "b")),)
        self.check(lost.reach(case[:3] + (tuple(sorted(case[3])),), (), "a"), (None, 3))
        case = case[:3] + ((("there", 0, "a"), ("there", 0, "b")),)
        self.check(lost.reach(case, (), "a"), (-6, 3))
        self.check(lost.reach(case, (("a", -6, 9),), "a"), (-6, 3))
        self.check(lost.reach(case, (("a", -5, 2),), "a"), (-5, 2))
        self.check(lost.reach(case, (("a", -7, 3),), "a"), (-6, 3))

    def test_no_name_comes_first(self):
        for case, bounds in ((SCRAPS, ()), (SCRAPS, (("a", 1, 3),)), (TWICE, ()), (NOTHING, ()), (WRONG, ())):
            for name in ("c", "ab"):
                self.refused_all_ways("NoName", {"name": name}, lost.surely_over,
                                      case=case, bounds=bounds, name=name, cell=4)
                self.refused_all_ways("NoName", {"name": name}, lost.may_lie,
                                      case=case, bounds=bounds, name=name, first=1, last=2)
                self.refused_all_ways("NoName", {"name": name}, lost.reach, case=case, bounds=bounds, name=name)


LEFT, RIGHT = -2, 5


def possible(case, bounds):
    """All possible FENCEs whose BILLs reach no further than a CELL beyond all that is told of."""
    rows = []
    for name, first, last in case[0]:
        cells = [cell for _, cell, seen in case[2] if seen == name] + [first, last]
        low, high = ([(low, high) for other, low, high in bounds if other == name] or [(LEFT, RIGHT)])[0]
        rows.append([(name, one, other) for one in range(max(low, LEFT), min(cells) + 1)
                     for other in range(max(cells), min(high, RIGHT) + 1)])
    return list(itertools.product(*rows))


def small_loose_case(chance, many):
    known = "abc"[:many]
    fence = tuple([(name, *sorted([chance.randint(0, 3), chance.randint(0, 3)])) for name in known])
    told = {(0, chance.randint(-1, 4), chance.choice("-" + known * 2)) for _ in range(chance.randint(0, 4))}
    facts = set()
    for word in chance.choices(["before", "there", "there", "not"], k=chance.randint(0, 3) if known else 0):
        if word != "before":
            facts.add((word, 0, chance.choice(known)))
        elif many > 1:
            facts.add((word, *chance.sample(known, 2)))
    bounds = [(name, chance.randint(LEFT, first), chance.randint(last, RIGHT)) for name, first, last in fence
              if chance.random() < 0.3]
    return (fence, 1, tuple(sorted(told)), tuple(sorted(facts))), tuple(bounds)


class AllPossibleFences(Case):
    def test_against_all_possible_fences(self):
        chance = random.Random(2)
        found = [0, 0]
        for many in [0] * 5 + [1] * 60 + [2] * 120 + [3] * 12:
            case, bounds = small_loose_case(chance, many)
            every = possible(case, bounds)
            held = [fence for fence in every
                    if any(cases.fits((fence,) + case[1:], row) for row in histories("abc"[:many], 1))]
            self.check(lost.is_loose_case(case), True)
            self.check(lost.is_bounds(case, bounds), True)
            self.check(lost.can_hold(case, bounds), bool(held))
            self.check_least(case, bounds, every)
            for name in "abc"[:many]:
                self.check_bill(case, bounds, held, name)
            found[bool(held)] += 1
        self.assertGreater(min(found), 50)

    def check_least(self, case, bounds, every):
        least = [fence for fence in every if all(
            big[1] <= small[1] and small[2] <= big[2] for other in every for small, big in zip(fence, other))]
        self.check(lost.least_fence(case, bounds), least[0] if least else None)

    def check_bill(self, case, bounds, held, name):
        at = "abc".index(name)
        ends = {fence[at][1:] for fence in held}
        for cell in range(LEFT, RIGHT + 1):
            wanted = all(first <= cell <= last for first, last in ends) if held else None
            self.check(lost.surely_over(case, bounds, name, cell), wanted)
        for first, last in itertools.combinations_with_replacement(range(LEFT, RIGHT + 1), 2):
            self.check(lost.may_lie(case, bounds, name, first, last), (first, last) in ends)
        if not held:
            self.check(lost.reach(case, bounds, name), None)
            return
        low = min(first for first, last in ends if last == min(end[1] for end in ends))
        high = max(last for first, last in ends if first == max(end[0] for end in ends))
        if name not in [part[0] for part in bounds]:
            # Beyond these nothing is told of: who comes so far comes as far as it likes.
            low = None if low == LEFT else low
            high = None if high == RIGHT else high
        self.check(lost.reach(case, bounds, name), (low, high))

    def test_at_the_bounds(self):
        chance = random.Random(1)
        fence = tuple([(sign, at * 10 ** 38, at * 10 ** 38 + 5) for at, sign in enumerate("abcdefghijkl")])
        told = sorted({(at // 5, chance.randint(-FAR, FAR), "-") for at in range(40)})
        case = (fence, 8, tuple(told), tuple([("there", 7, bill[0]) for bill in fence]))
        self.check(lost.can_hold(case, ()), True)
        barred = sorted(cell for photo, cell, _ in told if photo == 7)
        for name, first, last in fence:
            low = max([cell for cell in barred if cell < first], default=None)
            high = min([cell for cell in barred if cell > last], default=None)
            wanted = (None if low is None else low + 1, None if high is None else high - 1)
            self.check(lost.reach(case, (), name), wanted)


if __name__ == "__main__":
    unittest.main()
