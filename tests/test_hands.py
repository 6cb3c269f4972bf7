"""Several hands: against all WEAVINGs, KNOTs by the document's words, edges, wrong inputs, and at the bounds."""

import itertools
import math
import random
import unittest

from lastpasted import hands
from tests.support import FAR, LONE, Case, names_over, number, small_fence, spoiled, top_said

BOARDS = (("a", 1, 4), ("b", 3, 6), ("c", 5, 8))
ROWS = (("a", "c"), ("b",))
SEEN = ((3, "a"), (5, "b"))
KNOT = ((SEEN, "c"),)
BOTH = ((3, "a"), (4, "b"))
SINGLE = ((BOTH, "a"),)
GAPPED = (("p", -9, -7), ("q", 3, 3))
STEPS = tuple([(sign, at * 10, at * 10 + 10) for at, sign in enumerate("abcdef")])
CROSS_ROWS = (("d", "c"), ("a", "f"), ("b",), ("e",))
CROSS_SEEN = ((10, "a"), (20, "b"), (40, "d"), (50, "e"))
CROSS = ((CROSS_SEEN[:2], "c"), (CROSS_SEEN[2:], "f"))


def weavings_said(fence, rows, sights):
    """All WEAVINGs that fit, ascending."""
    found = []
    for order in itertools.permutations([bill[0] for bill in fence]):
        if all([name for name in order if name in row] == list(row) for row in rows):
            if all(top_said(fence, order, cell) == seen for cell, seen in sights):
                found.append(order)
    return found


def are_stairs_said(fence, sights, thing):
    if type(thing) is not tuple or len(thing) != 2 or type(thing[0]) is not tuple or not thing[0]:
        return False
    for step in thing[0]:
        if type(step) is not tuple or len(step) != 2 or not number(step[0]) or step not in sights:
            return False
    cells = [cell for cell, _ in thing[0]]
    if cells != sorted(cells) and cells != sorted(cells, reverse=True):
        return False
    walk = [seen for _, seen in thing[0]] + [thing[1]]
    for cell, upper, lower in zip(cells, walk, walk[1:]):
        if type(lower) is not str or upper == lower or lower not in names_over(fence, cell):
            return False
    return True


def is_knot_said(fence, rows, sights, thing):
    """What the document says of a KNOT, said once more in other words."""
    if type(thing) is not tuple or not thing or not all(are_stairs_said(fence, sights, part) for part in thing):
        return False
    if len(thing) == 1 and thing[0][1] == thing[0][0][0][1]:
        return True
    for at, (_, end) in enumerate(thing):
        first = thing[(at + 1) % len(thing)][0][0][1]
        if not any((first, end) in itertools.combinations(row, 2) for row in rows):
            return False
    return True


def stairs_said(fence, sights, most):
    """All STAIRS of so many SIGHTS at the most."""
    found = []
    for many in range(1, most + 1):
        for steps in itertools.product(sights, repeat=many):
            found += [(steps, bill[0]) for bill in fence if are_stairs_said(fence, sights, (steps, bill[0]))]
    return found


def small_hands(seed, many, most):
    """Small FENCEs, HANDS and SIGHTS."""
    chance = random.Random(seed)
    for at in range(many):
        fence = small_fence(chance, "abcde"[:at % (most + 1)])
        known = [bill[0] for bill in fence]
        chance.shuffle(known)
        rows = [[] for _ in range(chance.randint(1, 4))]
        for name in known:
            chance.choice(rows).append(name)
        every = [(cell, name) for cell in range(7) for name in names_over(fence, cell)]
        sights = chance.sample(every, min(len(every), chance.randint(0, 4)))
        yield fence, tuple([tuple(row) for row in rows]), tuple(sorted(sights))


class Forms(Case):
    def test_is_hands(self):
        for fence, thing, wanted in (
                (BOARDS, ROWS, True), (BOARDS, (("a", "c"),), False), (BOARDS, (("a", "b", "c"),), True),
                (BOARDS, (("c",), (), ("b", "a"), ()), True), ((), (), True), ((), ((),), True), (BOARDS, (), False),
                (BOARDS, (("a", "c"), ("b", "b")), False), (BOARDS, (("a", "c"), ("b",), ("a",)), False),
                (BOARDS, (("a", "c"), ("d",)), False), (BOARDS, (("a", "c"), ("b", "d")), False),
                (BOARDS, list(ROWS), False),
                (BOARDS, (["a", "c"], ("b",)), False), (BOARDS, ("ac", "b"), False), (BOARDS, ("a", "b", "c"), False),
                (BOARDS, (("a", "c"), ("b", 1)), False), (BOARDS, (("a", "c"), (("b",),)), False),
                (BOARDS, (("a", "c"), ("b",), None), False), (BOARDS, (("a", "c"), ("b",), []), False)):
            self.check_all_ways(hands.is_hands, wanted, fence=fence, thing=thing)
        for thing in LONE:
            self.check(hands.is_hands((), thing), type(thing) is tuple and thing in ((), ((),)))
            self.check(hands.is_hands(BOARDS[:1], (thing,)), type(thing) is tuple and thing == ("a",))

    def test_spoiled_hands(self):
        found = [0, 0]
        for thing in spoiled((("a", "c"), (), ("b",))):
            wanted = type(thing) is tuple and all(
                type(row) is tuple and all(type(part) is str for part in row) for row in thing)
            wanted = wanted and sorted(itertools.chain(*thing)) == ["a", "b", "c"]
            self.assertIs(hands.is_hands(BOARDS, thing), wanted, repr(thing))
            found[wanted] += 1
        self.assertGreater(min(found), 4)

    def test_beyond_the_bounds(self):
        fence = tuple([(sign, -FAR ** 2, FAR ** 2) for sign in "abcdefghijklmnopqrstuvwxyz"])
        self.check(hands.is_hands(fence, tuple([(bill[0],) for bill in fence])), True)
        self.check(hands.is_hands(fence, tuple([(bill[0],) for bill in fence[1:]])), False)

    def test_is_weaving(self):
        for rows, sights, thing, wanted in (
                (ROWS, (), ("a", "b", "c"), True), (ROWS, (), ("a", "c", "b"), True),
                (ROWS, (), ("c", "a", "b"), False),
                (ROWS, SEEN[1:], ("a", "c", "b"), True), (ROWS, SEEN[1:], ("a", "b", "c"), False),
                (ROWS, (), ["a", "b", "c"], False), (ROWS, (), ("a", "b"), False),
                (ROWS, (), ("a", "b", "c", "c"), False),
                (ROWS, (), ("a", "b", "d"), False), (ROWS, (), "abc", False), (ROWS, (), None, False),
                (ROWS, (), ("a", "b", 1), False), (ROWS, SEEN, ("a", "b", "c"), False)):
            self.check_all_ways(hands.is_weaving, wanted, fence=BOARDS, hands=rows, sights=sights, thing=thing)
        for thing in spoiled(("a", "b", "c")):
            wanted = type(thing) is tuple and thing in weavings_said(BOARDS, ROWS, ())
            self.assertIs(hands.is_weaving(BOARDS, ROWS, (), thing), wanted, repr(thing))
        for thing in LONE:
            self.check(hands.is_weaving((), (), (), thing), type(thing) is tuple and thing == ())


class Weavings(Case):
    def test_can_weave_and_how_many(self):
        for fence, rows, sights, wanted in ((BOARDS, ROWS, SEEN, 0), (BOARDS, (("c", "a"), ("b",)), SEEN, 1),
                                            (BOARDS, ROWS, (), 3), (BOARDS, ROWS, SEEN[1:], 1), ((), (), (), 1),
                                            ((), ((), ()), (), 1), (BOARDS, (("a",), ("b",), ("c",)), (), 6),
                                            (BOARDS, (("b", "c", "a"),), (), 1), (BOARDS, ROWS, BOTH, 0),
                                            (BOARDS, ROWS, ((3, "a"), (3, "b")), 0),
                                            (GAPPED, (("q",), (), ("p",)), (), 2)):
            self.check_all_ways(hands.can_weave, wanted > 0, fence=fence, hands=rows, sights=sights)
            self.check_all_ways(hands.how_many_weave, wanted, fence=fence, hands=rows, sights=sights)

    def test_nth_weave_and_back(self):
        for number, weaving in enumerate((("a", "b", "c"), ("a", "c", "b"), ("b", "a", "c"))):
            self.check_all_ways(hands.nth_weave, weaving, fence=BOARDS, hands=ROWS, sights=(), number=number)
            self.check_all_ways(hands.number_of_weave, number, fence=BOARDS, hands=ROWS, sights=(), weaving=weaving)
        self.check_all_ways(hands.nth_weave, (), fence=(), hands=(), sights=(), number=0)
        self.check_all_ways(hands.number_of_weave, 0, fence=(), hands=(), sights=(), weaving=())

    def test_number_of_none(self):
        for weaving in (("c", "a", "b"), ("a", "b"), (), ("a", "b", "c", "c"), ("x", "y", "zz"), ("a", "a", "c")):
            self.check_all_ways(hands.number_of_weave, None, fence=BOARDS, hands=ROWS, sights=(), weaving=weaving)
        self.check_all_ways(hands.number_of_weave, None, fence=BOARDS, hands=ROWS, sights=SEEN, weaving=("a", "b", "c"))

    def test_no_number(self):
        for fence, rows, sights, number in ((BOARDS, ROWS, (), 3), (BOARDS, ROWS, (), -1), (BOARDS, ROWS, SEEN, 0),
                                            (BOARDS, ROWS, SEEN, -1), ((), (), (), 1), ((), (), (), -FAR),
                                            (BOARDS, ROWS, (), FAR), (BOARDS, ROWS, SEEN[1:], 1)):
            self.refused_all_ways("NoNumber", {"number": number}, hands.nth_weave, fence=fence, hands=rows,
                                  sights=sights,
                                  number=number)


class Sure(Case):
    def test_surely_ahead(self):
        for fence, rows, sights, wanted in ((BOARDS, ROWS, (), (("a", "c"),)), ((), ((),), (), ()),
                                            (BOARDS, ROWS, SEEN[1:], (("a", "b"), ("a", "c"), ("c", "b"))),
                                            (BOARDS, (("a",), ("b",), ("c",)), (), ()),
                                            (GAPPED, (("q", "p"),), (), (("q", "p"),))):
            self.check_all_ways(hands.surely_ahead, wanted, fence=fence, hands=rows, sights=sights)

    def test_weave_answers(self):
        for fence, sights, cell, wanted in ((BOARDS, SEEN[1:], 3, ("b",)), (BOARDS, (), 3, ("a", "b")),
                                            (BOARDS, (), 9, ("-",)),
                                            (BOARDS, (), FAR, ("-",)), (BOARDS, SEEN[:1], 5, ("c",)),
                                            (BOARDS, (), 1, ("a",)),
                                            (BOARDS, (), 5, ("b", "c"))):
            self.check_all_ways(hands.weave_answers, wanted, fence=fence, hands=ROWS, sights=sights, cell=cell)
        self.check_all_ways(hands.weave_answers, ("-",), fence=(), hands=(), sights=(), cell=0)

    def test_seen_of(self):
        for fence, rows, sights, place, wanted in (
                (BOARDS, ROWS, (), 0, (2, 2)), (BOARDS, ROWS, (), 1, (0, 1)), (BOARDS, ROWS, SEEN[1:], 1, (1, 1)),
                ((("a", 1, 4), ("b", 2, 3)), (("a",), ("b",)), (), 1, (0, 1)),
                (BOARDS, (("a", "b", "c"), ()), (), 1, (0, 0)),
                ((("a", 1, 4), ("b", 2, 3)), (("b", "a"),), (), 0, (1, 1)), ((), ((),), (), 0, (0, 0)),
                ((("a", 1, 4), ("b", 2, 3)), ((), ("a", "b")), (), 1, (2, 2)), (GAPPED, (("q", "p"),), (), 0, (2, 2))):
            self.check_all_ways(hands.seen_of, wanted, fence=fence, hands=rows, sights=sights, place=place)

    def test_no_history(self):
        for rows, sights in ((ROWS, SEEN), (ROWS, BOTH), (ROWS, ((3, "a"), (3, "b"))),
                             ((("b", "c", "a"),), ((5, "b"),))):
            self.refused_all_ways("NoHistory", {}, hands.surely_ahead, fence=BOARDS, hands=rows, sights=sights)
            for cell in (1, 3, 9, FAR):
                self.refused_all_ways("NoHistory", {}, hands.weave_answers, fence=BOARDS, hands=rows, sights=sights,
                                      cell=cell)
            for place in range(len(rows)):
                self.refused_all_ways("NoHistory", {}, hands.seen_of, fence=BOARDS, hands=rows, sights=sights,
                                      place=place)


class Knots(Case):
    def check_knot(self, fence, rows, sights, thing, wanted):
        self.check_all_ways(hands.is_knot, wanted, fence=fence, hands=rows, sights=sights, thing=thing)

    def test_a_knot(self):
        for fence, rows, sights, wanted in ((BOARDS, ROWS, SEEN, True), (BOARDS, ROWS, BOTH, True),
                                            (BOARDS, ROWS, (), False),
                                            (BOARDS, ROWS, SEEN[1:], False), ((), (), (), False),
                                            (STEPS, CROSS_ROWS, CROSS_SEEN, True),
                                            (BOARDS, ROWS, ((3, "a"), (3, "b")), True),
                                            (STEPS, CROSS_ROWS, CROSS_SEEN[1:], False)):
            found = hands.a_knot(fence, rows, sights)
            self.check_all_ways(hands.a_knot, found, fence=fence, hands=rows, sights=sights)
            self.assertEqual(found is not None, wanted)
            self.check_knot(fence, rows, sights, found, wanted)
            self.check(hands.can_weave(fence, rows, sights), not wanted)

    def test_is_knot(self):
        for thing, wanted in ((KNOT, True), (((SEEN[:1], "b"),), False), (((SEEN, "b"),), False),
                              (((SEEN[::-1], "c"),), False),
                              (((), "c"), False), ((((), "c"),), False), ((), False), (KNOT * 2, True),
                              (KNOT[0], False),
                              (((SEEN, "a"),), False), (((list(SEEN), "c"),), False), (((SEEN, "c", "c"),), False),
                              (((SEEN[1:], "c"),), False), (((SEEN, ("c",)),), False), (None, False),
                              ([KNOT[0]], False),
                              ((((3, "a"), "b"),), False), ((list(KNOT[0]),), False),
                              ((((SEEN[0], list(SEEN[1])), "c"),), False)):
            self.check_knot(BOARDS, ROWS, SEEN, thing, wanted)
        for thing in LONE:
            self.check(hands.is_knot(BOARDS, ROWS, SEEN, thing), False)

    def test_one_stairs_alone(self):
        for thing, wanted in ((SINGLE, True), (((BOTH[::-1], "b"),), True), (((BOTH, "b"),), False),
                              (((BOTH[:1], "a"),), False),
                              (SINGLE * 2, False), (((BOTH[:1], "b"),), False), (SINGLE + ((BOTH[::-1], "b"),), False)):
            self.check_knot(BOARDS, ROWS, BOTH, thing, wanted)
        same = ((3, "a"), (3, "b"))
        self.check_knot(BOARDS, ROWS, same, ((same, "a"),), True)
        self.check_knot(BOARDS, ROWS, same, ((same + same, "a"),), True)
        self.check_knot(BOARDS, ROWS, BOTH, ((BOTH + BOTH, "a"),), False)

    def test_stairs_that_go_down(self):
        turned = tuple([(name, -last, -first) for name, first, last in BOARDS])
        down = ((-3, "a"), (-5, "b"))
        self.check_knot(turned, ROWS, down[::-1], ((down, "c"),), True)
        self.check_knot(turned, ROWS, down[::-1], ((down[::-1], "c"),), False)
        self.check_knot(turned, ROWS, down[::-1], hands.a_knot(turned, ROWS, down[::-1]), True)
        bent = (("a", 0, 10), ("b", 8, 20), ("c", 3, 9), ("d", 2, 4))
        saw = ((4, "c"), (8, "b"), (10, "a"))
        rows = (("a", "d"), ("b",), ("c",))
        self.check(hands.is_knot(bent, rows, saw, ((((10, "a"), (8, "b"), (4, "c")), "d"),)), True)
        self.check(hands.is_knot(bent, rows, ((4, "c"), (8, "b"), (9, "b"), (10, "a")),
                                 ((((10, "a"), (8, "b"), (9, "b"), (4, "c")), "d"),)), False)

    def test_two_stairs(self):
        for thing, wanted in ((CROSS, True), (CROSS[::-1], True), (CROSS[:1], False), (CROSS + CROSS[:1], False),
                              (CROSS + CROSS, True), (((CROSS_SEEN[:1], "b"), CROSS[1]), False)):
            self.check_knot(STEPS, CROSS_ROWS, CROSS_SEEN, thing, wanted)
        for rows in ((("c", "d"), ("a", "f"), ("b",), ("e",)), (("c",), ("d",), ("a", "f"), ("b",), ("e",))):
            self.check_knot(STEPS, rows, CROSS_SEEN, CROSS, False)
        self.check_knot(STEPS, CROSS_ROWS, CROSS_SEEN[1:], CROSS, False)

    def test_a_bool_is_no_cell(self):
        fence = (("a", 0, 1), ("b", 1, 2))
        self.check_knot(fence, (("a", "b"),), ((1, "a"),), ((((1, "a"),), "b"),), True)
        self.check_knot(fence, (("a", "b"),), ((1, "a"),), ((((True, "a"),), "b"),), False)

    def test_spoiled_knots(self):
        for fence, rows, sights, knot in ((BOARDS, ROWS, SEEN, KNOT), (BOARDS, ROWS, BOTH, SINGLE),
                                          (STEPS, CROSS_ROWS, CROSS_SEEN, CROSS)):
            for thing in spoiled(knot):
                self.assertIs(hands.is_knot(fence, rows, sights, thing), is_knot_said(fence, rows, sights, thing),
                              repr(thing))


class AllSmallWeavings(Case):
    def test_against_all_weavings(self):
        found = [0, 0]
        for fence, rows, sights in small_hands(31, 900, 5):
            kept = weavings_said(fence, rows, sights)
            self.check(hands.is_hands(fence, rows), True)
            self.check(hands.can_weave(fence, rows, sights), bool(kept))
            self.check(hands.how_many_weave(fence, rows, sights), len(kept))
            for at, weaving in enumerate(kept):
                self.check(hands.nth_weave(fence, rows, sights, at), weaving)
                self.check(hands.number_of_weave(fence, rows, sights, weaving), at)
            self.refused("NoNumber", {"number": len(kept)}, hands.nth_weave, fence, rows, sights, len(kept))
            for order in list(itertools.permutations([bill[0] for bill in fence]))[:40]:
                self.check(hands.is_weaving(fence, rows, sights, order), order in kept)
            knot = hands.a_knot(fence, rows, sights)
            self.assertEqual(knot is None, bool(kept))
            self.assertTrue(knot is None or is_knot_said(fence, rows, sights, knot), (fence, rows, sights, knot))
            self.check(hands.is_knot(fence, rows, sights, knot), not kept)
            self.check_sure(fence, rows, sights, kept)
            found[bool(kept)] += 1
        self.assertGreater(min(found), 200)

    def check_sure(self, fence, rows, sights, kept):
        if not kept:
            self.refused("NoHistory", {}, hands.surely_ahead, fence, rows, sights)
            self.refused("NoHistory", {}, hands.weave_answers, fence, rows, sights, 99)
            self.refused("NoHistory", {}, hands.seen_of, fence, rows, sights, 0)
            return
        ahead = [pair for pair in itertools.permutations([bill[0] for bill in fence], 2)
                 if all(order.index(pair[0]) < order.index(pair[1]) for order in kept)]
        self.check(hands.surely_ahead(fence, rows, sights), tuple(ahead))
        for cell in range(-1, 8):
            seen = {top_said(fence, order, cell) for order in kept}
            self.check(hands.weave_answers(fence, rows, sights, cell), tuple(sorted(seen)))
        for place, row in enumerate(rows):
            seen = [len({top_said(fence, order, cell) for cell in range(7)} & set(row)) for order in kept]
            self.check(hands.seen_of(fence, rows, sights, place), (min(seen), max(seen)))

    def test_is_knot_of_many_things(self):
        found = [0, 0]
        chance = random.Random(32)
        for fence, rows, sights in small_hands(33, 250, 4):
            stairs = stairs_said(fence, sights, 3)
            for stair in stairs:
                found[self.check_said(fence, rows, sights, (stair,))] += 1
            for _ in range(30 if stairs else 0):
                thing = tuple([chance.choice(stairs) for _ in range(chance.randint(2, 3))])
                found[self.check_said(fence, rows, sights, thing)] += 1
                steps, end = thing[0]
                for other in (steps[::-1], steps + steps[:1], steps[1:], steps[:1]):
                    found[self.check_said(fence, rows, sights, ((other, end),))] += 1
        self.assertGreater(min(found), 200)

    def check_said(self, fence, rows, sights, thing):
        wanted = is_knot_said(fence, rows, sights, thing)
        self.assertIs(hands.is_knot(fence, rows, sights, thing), wanted, (fence, rows, sights, thing))
        # Where there is a KNOT, no WEAVING fits.
        self.assertFalse(wanted and hands.can_weave(fence, rows, sights))
        return wanted


class Bounds(Case):
    def test_twelve_bills_of_twelve_hands(self):
        fence = tuple([(sign, -FAR + at, FAR - at) for at, sign in enumerate("abcdefghijkl")])
        rows = tuple([(bill[0],) for bill in fence])
        self.check(hands.how_many_weave(fence, rows, ()), math.factorial(12))
        last = tuple("lkjihgfedcba")
        self.check(hands.nth_weave(fence, rows, (), math.factorial(12) - 1), last)
        self.check(hands.number_of_weave(fence, rows, (), last), math.factorial(12) - 1)
        self.check(hands.surely_ahead(fence, rows, ()), ())
        self.check(hands.seen_of(fence, rows, (), 0), (1, 1))
        self.check(hands.seen_of(fence, rows, (), 11), (0, 1))
        sights = tuple([(cell, "a") for cell in range(30)])
        self.check(hands.how_many_weave(fence, rows, sights), math.factorial(11))
        self.check(hands.weave_answers(fence, rows, sights, FAR - 2), ("a",))
        self.check(hands.a_knot(fence, rows, sights), None)

    def test_six_of_one_hand(self):
        fence = tuple([(sign, at * FAR // 20, at * FAR // 20 + FAR // 10) for at, sign in enumerate("abcdefghijkl")])
        rows = (("a", "c", "e", "g", "i", "k"), ("l", "j", "h", "f", "d", "b"))
        self.check(hands.how_many_weave(fence, rows, ()), math.comb(12, 6))
        for number in (0, 400, 923):
            weaving = hands.nth_weave(fence, rows, (), number)
            self.check(hands.number_of_weave(fence, rows, (), weaving), number)
        least, most = hands.seen_of(fence, rows, (), 0)
        self.assertTrue(1 <= least < most <= 6)

    def test_a_long_knot(self):
        fence = tuple([(sign, at * FAR // 20, (at + 1) * FAR // 20) for at, sign in enumerate("abcdefghijkl")])
        sights = tuple([((at + 1) * FAR // 20, "abcdefghijkl"[at]) for at in range(11)])
        rows = (("a", "l"), tuple("kjihgfedcb"))
        self.check(hands.a_knot(fence, rows, sights), ((sights, "l"),))
        self.check(hands.can_weave(fence, (("l", "a"), rows[1]), sights), True)


if __name__ == "__main__":
    unittest.main()
