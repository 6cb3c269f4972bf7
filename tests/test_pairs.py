"""SIGHTs of one PHOTO: against all ORDERs, edges and wrong inputs."""

import itertools
import random
import unittest

from lastpasted import bills, pairs
from tests.support import FAR, LONE, Case, names_over, number, small_fence, spoiled, top_said

FENCE = (("a", 1, 6), ("b", 4, 9), ("c", 2, 5))
SIGHTS = ((3, "c"), (5, "b"), (8, "b"))
CLASHING = ((3, "c"), (5, "a"))
GAPPED = (("p", -9, -7), ("q", 3, 3))
GREAT = tuple([(sign, -FAR + at, FAR - at * at) for at, sign in enumerate("abcdefghijkl")])


class Sights(Case):
    def test_is_sight(self):
        for thing, wanted in (((1, "b"), False), ((4, "b"), True), ((9, "b"), True), ((10, "b"), False),
                              ((3, "b"), False), ((5, "-"), False), ((99, "-"), False), ((5, "d"), False),
                              ([5, "b"], False), ((5, "b", 1), False), ((5,), False), (("5", "b"), False),
                              ((True, "a"), False), ((1, "a"), True), (("b", 5), False), ((FAR ** 2, "b"), False),
                              ((5, ["b"]), False), ((None, "b"), False), ((5, None), False)):
            self.check_all_ways(pairs.is_sight, wanted, fence=FENCE, thing=thing)
        for thing in LONE:
            self.check(pairs.is_sight(FENCE, thing), False)
            self.check(pairs.is_sight((), thing), False)
            self.check(pairs.is_sight(FENCE, (5, thing)), thing in ("a", "b"))
            self.check(pairs.is_sight(FENCE, (thing, "a")), number(thing) and thing == 1)

    def test_is_sights(self):
        for thing, wanted in ((SIGHTS, True), (CLASHING, True), ((), True), (SIGHTS[::-1], False),
                              (list(SIGHTS), False),
                              (SIGHTS + SIGHTS[-1:], False), (((5, "a"), (5, "b")), True), ([], False),
                              (((5, "b"), (5, "a")), False), ((SIGHTS[0], list(SIGHTS[1])), False), ((3, "c"), False),
                              (((1, "a"), (1, "b")), False), (((1, "a"), None), False)):
            self.check_all_ways(pairs.is_sights, wanted, fence=FENCE, thing=thing)
        for thing in LONE:
            self.check(pairs.is_sights(FENCE, thing), thing == () and type(thing) is tuple)
            self.check(pairs.is_sights(FENCE, (thing,)), False)
        self.check(pairs.is_sights((), ()), True)

    def test_however_many(self):
        fence = (("a", 0, 500), ("b", 0, 500))
        self.check(pairs.is_sights(fence, tuple([(cell, name) for cell in range(500) for name in "ab"])), True)

    def test_spoiled_sights(self):
        found = [0, 0]
        for thing in spoiled(SIGHTS):
            wanted = type(thing) is tuple and all(
                type(part) is tuple and len(part) == 2 and number(part[0]) and part[1] in names_over(FENCE, part[0])
                for part in thing) and list(thing) == sorted(set(thing))
            self.assertIs(pairs.is_sights(FENCE, thing), wanted, repr(thing))
            found[wanted] += 1
        self.assertGreater(min(found), 5)

    def test_clash(self):
        for one, other, wanted in (((3, "c"), (5, "a"), True), ((3, "c"), (5, "b"), False), ((1, "a"), (8, "b"), False),
                                   ((5, "a"), (5, "b"), True), ((3, "c"), (2, "c"), False), ((3, "c"), (3, "c"), False),
                                   ((5, "a"), (6, "b"), True), ((3, "a"), (5, "b"), False), ((4, "b"), (5, "c"), True)):
            self.check_all_ways(pairs.clash, wanted, fence=FENCE, one=one, other=other)
            self.check_all_ways(pairs.clash, wanted, fence=FENCE, one=other, other=one)

    def test_clashes(self):
        for sights, wanted in ((((3, "c"), (5, "a"), (6, "b")), (((3, "c"), (5, "a")), ((5, "a"), (6, "b")))),
                               (SIGHTS, ()), ((), ()), (((5, "a"), (5, "b")), (((5, "a"), (5, "b")),))):
            self.check_all_ways(pairs.clashes, wanted, fence=FENCE, sights=sights)

    def test_free_sights(self):
        for sights, wanted in ((((3, "c"), (5, "a"), (8, "b")), ((8, "b"),)), (SIGHTS, SIGHTS), ((), ()),
                               (CLASHING, ()), (((3, "c"), (5, "a"), (6, "b")), ())):
            self.check_all_ways(pairs.free_sights, wanted, fence=FENCE, sights=sights)


class Orders(Case):
    def test_hold_together(self):
        for sights, wanted in ((SIGHTS, True), (CLASHING, False), ((), True), (((5, "b"), (5, "c")), False)):
            self.check_all_ways(pairs.hold_together, wanted, fence=FENCE, sights=sights)
        self.check_all_ways(pairs.hold_together, True, fence=(), sights=())

    def test_order_for(self):
        for fence, sights in ((FENCE, SIGHTS), (FENCE, ()), ((), ()), (GAPPED, ((3, "q"),))):
            order = pairs.order_for(fence, sights)
            self.check_all_ways(pairs.order_for, order, fence=fence, sights=sights)
            self.check_all_ways(pairs.is_order_for, True, fence=fence, sights=sights, thing=order)
        self.check_all_ways(pairs.order_for, None, fence=FENCE, sights=CLASHING)

    def test_is_order_for(self):
        for thing, wanted in ((("a", "c", "b"), True), (("a", "b", "c"), False), (("c", "a", "b"), False),
                              (("a", "c"), False), (["a", "c", "b"], False), (("a", "c", "b", "b"), False),
                              (("a", "c", "d"), False),
                              (("a", "c", "b", "d"), False), ((), False), (("a", "c", 1), False), ("acb", False),
                              (("a", "c", None), False), (("a", "c", ("b",)), False), (None, False)):
            self.check_all_ways(pairs.is_order_for, wanted, fence=FENCE, sights=SIGHTS, thing=thing)
        for row in itertools.permutations("abc"):
            self.check(pairs.is_order_for(FENCE, CLASHING, row), False)
            self.check(pairs.is_order_for(FENCE, (), row), True)
        for thing in LONE:
            self.check(pairs.is_order_for(FENCE, (), thing), thing == ("a", "b", "c"))
            self.check(pairs.is_order_for((), (), thing), type(thing) is tuple and thing == ())

    def test_spoiled_orders(self):
        for thing in spoiled(("a", "c", "b")):
            self.assertIs(pairs.is_order_for(FENCE, SIGHTS, thing), thing == ("a", "c", "b"), repr(thing))

    def test_surely_below(self):
        for fence, sights, wanted in ((FENCE, SIGHTS, (("a", "b"), ("a", "c"), ("c", "b"))), (FENCE, (), ()),
                                      (FENCE, ((3, "a"),), (("c", "a"),)), ((), (), ()), (GAPPED, ((3, "q"),), ())):
            self.check_all_ways(pairs.surely_below, wanted, fence=fence, sights=sights)

    def test_what_follows_is_below_too(self):
        fence = (("a", 0, 2), ("b", 2, 4), ("c", 4, 6), ("d", 9, 9))
        sights = ((2, "b"), (4, "c"))
        self.check_all_ways(pairs.surely_below, (("a", "b"), ("a", "c"), ("b", "c")), fence=fence, sights=sights)
        self.check_all_ways(pairs.sure_layers, [("a", "d"), ("b",), ("c",)], fence=fence, sights=sights)

    def test_sure_layers(self):
        for fence, sights, wanted in ((FENCE, SIGHTS, [("a",), ("c",), ("b",)]), (FENCE, (), [("a", "b", "c")]),
                                      (FENCE, ((3, "a"),), [("b", "c"), ("a",)]), ((), (), []),
                                      (GAPPED, ((3, "q"),), [("p", "q")])):
            self.check_all_ways(pairs.sure_layers, wanted, fence=fence, sights=sights)

    def test_no_history(self):
        for sights in (CLASHING, ((5, "a"), (5, "b")), ((1, "a"), (5, "b"), (5, "c"))):
            self.refused_all_ways("NoHistory", {}, pairs.surely_below, fence=FENCE, sights=sights)
            self.refused_all_ways("NoHistory", {}, pairs.sure_layers, fence=FENCE, sights=sights)


class Seen(Case):
    def test_seen_there(self):
        for sights, cell, wanted in ((SIGHTS, 6, ("b",)), (((3, "c"),), 5, ("b", "c")), ((), 5, ("a", "b", "c")),
                                     ((), 10, ()), ((), -FAR, ()), (CLASHING, 1, ()), (CLASHING, 99, ()),
                                     (SIGHTS, 3, ("c",)), (SIGHTS, 4, ("b",)), (SIGHTS, 1, ("a",))):
            self.check_all_ways(pairs.seen_there, wanted, fence=FENCE, sights=sights, cell=cell)
        self.check_all_ways(pairs.seen_there, (), fence=(), sights=(), cell=0)

    def test_seen_together(self):
        for sights, asked, wanted in (((), (3, 6), [("a", "a"), ("a", "b"), ("c", "a"), ("c", "b")]), ((), (), [()]),
                                      (((6, "a"),), (3, 5), [("a", "a"), ("c", "c")]), (CLASHING, (), []),
                                      (CLASHING, (3,), []), ((), (5, 5), [("a", "a"), ("b", "b"), ("c", "c")]),
                                      ((), (6, 3), [("a", "a"), ("a", "c"), ("b", "a"), ("b", "c")]),
                                      (SIGHTS, (8, 1, 3), [("b", "a", "c")]), ((), (8, 8, 8), [("b", "b", "b")])):
            self.check_all_ways(pairs.seen_together, wanted, fence=FENCE, sights=sights, asked=asked)
        self.check_all_ways(pairs.seen_together, [()], fence=(), sights=(), asked=())

    def test_lists_are_new(self):
        for call in (lambda: pairs.seen_together(FENCE, (), (3,)), lambda: pairs.sure_layers(FENCE, SIGHTS)):
            wanted = call()
            call().append("x")
            self.check(call(), wanted)

    def test_sure_cells(self):
        every = (((1, 1), "a"), ((2, 3), "a"), ((4, 5), "a"), ((6, 6), "a"), ((7, 9), "b"))
        for fence, sights, wanted in ((FENCE, (), (every[0], every[-1])), (FENCE, ((5, "a"),), every),
                                      (FENCE, CLASHING, ()), ((), (), ()),
                                      (GAPPED, (), (((-9, -7), "p"), ((3, 3), "q")))):
            self.check_all_ways(pairs.sure_cells, wanted, fence=fence, sights=sights)


class AllSmallOrders(Case):
    def test_against_all_orders(self):
        chance = random.Random(3)
        found = [0, 0]
        for _ in range(600):
            fence = small_fence(chance, "abcd"[:chance.randint(0, 4)])
            every = [(cell, name) for cell in range(7) for name in names_over(fence, cell)]
            sights = tuple(sorted(chance.sample(every, min(len(every), chance.randint(0, 4)))))
            orders = list(itertools.permutations(bills.names(fence)))
            kept = [order for order in orders if all(top_said(fence, order, cell) == name for cell, name in sights)]
            found[bool(kept)] += 1
            self.check_orders(fence, sights, orders, kept)
            self.check_clashes(fence, sights, orders)
            self.check_seen(fence, sights, kept)
            if every:
                asked = [chance.choice(every)[0] for _ in range(chance.randint(0, 3))]
                rows = sorted({tuple([top_said(fence, order, cell) for cell in asked]) for order in kept})
                self.check(pairs.seen_together(fence, sights, tuple(asked)), rows)
        self.assertGreater(min(found), 100)

    def check_orders(self, fence, sights, orders, kept):
        self.check(pairs.is_sights(fence, sights), True)
        self.check(pairs.hold_together(fence, sights), bool(kept))
        found = pairs.order_for(fence, sights)
        self.assertTrue(found in kept if kept else found is None)
        for order in orders:
            self.check(pairs.is_order_for(fence, sights, order), order in kept)
        if kept:
            below = [pair for pair in itertools.permutations(bills.names(fence), 2)
                     if all(order.index(pair[0]) < order.index(pair[1]) for order in kept)]
            self.check(pairs.surely_below(fence, sights), tuple(below))
            self.check_layers(below, list(bills.names(fence)), pairs.sure_layers(fence, sights))

    def check_layers(self, below, left, layers):
        earlier = set()
        for layer in layers:
            wanted = [name for name in left if all(low in earlier for low, high in below if high == name)]
            self.check(layer, tuple(wanted))
            earlier.update(layer)
            left = [name for name in left if name not in layer]
        self.assertEqual(left, [])

    def check_clashes(self, fence, sights, orders):
        barred = []
        for pair in itertools.combinations(sights, 2):
            if not any(all(top_said(fence, order, cell) == name for cell, name in pair) for order in orders):
                barred.append(pair)
            self.check(pairs.clash(fence, *pair), pair in barred)
        self.check(pairs.clashes(fence, sights), tuple(barred))
        free = [sight for sight in sights if not any(sight in pair for pair in barred)]
        self.check(pairs.free_sights(fence, sights), tuple(free))

    def check_seen(self, fence, sights, kept):
        for cell in range(-1, 8):
            seen = {top_said(fence, order, cell) for order in kept} - {"-"}
            self.check(pairs.seen_there(fence, sights, cell), tuple(sorted(seen)))
        sure = []
        for piece in bills.pieces(fence):
            seen = {top_said(fence, order, piece[0]) for order in kept}
            sure += [(piece, name) for name in seen if len(seen) == 1]
        self.check(pairs.sure_cells(fence, sights), tuple(sure))


class Bounds(Case):
    def test_at_the_bounds(self):
        sights = tuple([(cell, "a") for cell in range(39)] + [(FAR - 3, "c")])
        self.check(pairs.is_sights(GREAT, sights), False)
        sights = sights[:-1] + ((FAR - 4, "c"),)
        self.check(pairs.is_sights(GREAT, sights), True)
        self.check(pairs.hold_together(GREAT, sights), False)
        held = sights[:-1] + ((FAR - 1, "b"),)
        self.check(pairs.clashes(GREAT, held), tuple([(sight, held[-1]) for sight in held[:-1]]))
        held = sights[:-1]
        self.check(pairs.surely_below(GREAT, held), tuple([(name, "a") for name in "bcdefghijkl"]))
        self.check(pairs.order_for(GREAT, held)[-1], "a")
        self.check(pairs.seen_there(GREAT, held, FAR), ("a",))
        self.check(len(pairs.seen_together(GREAT, (), (0, 1, 2))), 12)
        self.check(pairs.seen_together(GREAT, (), (-FAR, FAR, 0)), [("a", "a", name) for name in "abcdefghijkl"])

    def test_many_answers_at_once(self):
        fence = tuple([(sign, at // 4 * 10, at // 4 * 10 + 5) for at, sign in enumerate("abcdefghijkl")])
        self.check(len(pairs.seen_together(fence, (), (0, 10, 20))), 64)
        self.check(pairs.seen_together(fence, (), (20, 0, 10))[0], ("i", "a", "e"))


if __name__ == "__main__":
    unittest.main()
