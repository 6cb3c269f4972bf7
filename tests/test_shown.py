"""Who can be seen at all: against all ORDERs, edges, wrong names, and at the bounds."""

import itertools
import random
import unittest

from lastpasted import bills, shown
from tests.support import FAR, Case, names_over, small_fence, top_said

BOARDS = (("a", 1, 6), ("b", 4, 9), ("c", 2, 5))
COVER = (("x", 1, 6), ("y", 1, 3), ("z", 4, 6))
APART = (("p", -9, -7), ("q", 3, 3))
ALIKE = (("a", 2, 4), ("b", 2, 4), ("c", 2, 4))
NESTED = tuple([(sign, -FAR + at, FAR - at) for at, sign in enumerate("abcdefghijkl")])
STAIRS = tuple([(sign, at * 10, at * 10 + 15) for at, sign in enumerate("abcdefghijkl")])
SAME = tuple([(sign, -FAR, FAR) for sign in "abcdefghijkl"])


def seen_said(fence, order):
    """The set of the NAMEs that are the top of some CELL, CELL by CELL."""
    return tuple(sorted({top_said(fence, order, cell) for cell in range(-10, 12)} - {"-"}))


class Pieces(Case):
    def test_seen_in(self):
        for fence, order, wanted in ((BOARDS, ("a", "b", "c"), ("a", "b", "c")), (BOARDS, ("c", "b", "a"), ("a", "b")),
                                     (COVER, ("y", "z", "x"), ("x",)), (COVER, ("x", "z", "y"), ("y", "z")),
                                     ((), (), ()), (APART, ("q", "p"), ("p", "q"))):
            self.check_all_ways(shown.seen_in, wanted, fence=fence, order=order)

    def test_own_pieces(self):
        for fence, name, wanted in ((BOARDS, "b", ((7, 9),)), (BOARDS, "c", ()), (BOARDS, "a", ((1, 1),)),
                                    (COVER, "x", ()), (APART, "q", ((3, 3),)),
                                    ((("a", 0, 9), ("b", 3, 4)), "a", ((0, 2), (5, 9)))):
            self.check_all_ways(shown.own_pieces, wanted, fence=fence, name=name)

    def test_surely_seen(self):
        for fence, wanted in ((BOARDS, ("a", "b")), (COVER, ()), (APART, ("p", "q")), ((), ()), (ALIKE, ())):
            self.check_all_ways(shown.surely_seen, wanted, fence=fence)


class Some(Case):
    def check_some(self, fence, those, hide, show, just):
        for call, made, wanted in ((shown.may_hide, shown.hiding_order, hide),
                                   (shown.may_show, shown.showing_order, show),
                                   (shown.can_be_just, shown.just_order, just)):
            self.check_all_ways(call, wanted, fence=fence, those=those)
            order = made(fence, those)
            self.assertEqual(order is not None, wanted)
            self.check_all_ways(made, order, fence=fence, those=those)

    def test_some(self):
        for fence, those, hide, show, just in (
                (BOARDS, ("c",), True, True, False), (BOARDS, ("a",), False, True, False),
                (BOARDS, ("a", "b"), False, True, True), (BOARDS, ("b", "c"), False, True, False),
                (BOARDS, ("a", "b", "c"), False, True, True), (BOARDS, (), True, True, False),
                (COVER, ("x",), True, True, True), (COVER, ("y", "z"), True, True, True),
                (COVER, ("x", "y"), False, True, True), (COVER, ("x", "y", "z"), False, False, False),
                (COVER, ("y",), True, True, False), ((), (), True, True, True), (APART, ("p", "q"), False, True, True),
                (APART, ("p",), False, True, False), (ALIKE, ("b",), True, True, True),
                (ALIKE, ("a", "b"), True, False, False), (ALIKE, ("a", "b", "c"), False, False, False)):
            self.check_some(fence, those, hide, show, just)

    def test_no_name(self):
        for those, name in ((("a", "q"), "q"), (("q", "r"), "q"), (("a", "b", "c", "d"), "d"), (("aa", "b"), "aa")):
            for call in (shown.may_hide, shown.may_show, shown.can_be_just, shown.hiding_order, shown.showing_order,
                         shown.just_order):
                self.refused_all_ways("NoName", {"name": name}, call, fence=BOARDS, those=those)
                self.refused_all_ways("NoName", {"name": those[0]}, call, fence=(), those=those)
        for fence in (BOARDS, COVER[:1], ()):
            self.refused_all_ways("NoName", {"name": "q"}, shown.own_pieces, fence=fence, name="q")


class Most(Case):
    def test_fewest_and_most(self):
        for fence, fewest, most, just in (
                (BOARDS, 2, 3, [("a", "b"), ("a", "b", "c")]), ((), 0, 0, [()]), (APART, 2, 2, [("p", "q")]),
                (COVER, 1, 2, [("x",), ("x", "y"), ("x", "z"), ("y", "z")]), (ALIKE, 1, 1, [("a",), ("b",), ("c",)])):
            self.check_all_ways(shown.fewest_seen, fewest, fence=fence)
            self.check_all_ways(shown.most_seen, most, fence=fence)
            self.check_all_ways(shown.how_many_just, len(just), fence=fence)
            self.check_all_ways(shown.all_just, just, fence=fence)
            for call, many in ((shown.fewest_set, fewest), (shown.most_set, most)):
                found = call(fence)
                self.check_all_ways(call, found, fence=fence)
                self.assertEqual(len(found), many)
                self.assertIn(found, just)

    def test_the_list_is_new(self):
        shown.all_just(COVER).append("x")
        self.assertEqual(len(shown.all_just(COVER)), 4)


class AllSmallOrders(Case):
    def test_against_all_orders(self):
        chance = random.Random(13)
        found = [[0, 0], [0, 0], [0, 0]]
        for at in range(250):
            fence = small_fence(chance, "abcde"[:at % 6])
            orders = list(itertools.permutations(bills.names(fence)))
            seen = {order: seen_said(fence, order) for order in orders}
            for order in orders:
                self.check(shown.seen_in(fence, order), seen[order])
            just = sorted(set(seen.values()))
            sure = [name for name in bills.names(fence) if all(name in row for row in just)]
            self.check(shown.surely_seen(fence), tuple(sure))
            self.check_just(fence, just)
            for size in range(len(fence) + 1):
                for those in itertools.combinations(bills.names(fence), size):
                    hide = [order for order in orders if not set(those) & set(seen[order])]
                    show = [order for order in orders if set(those) <= set(seen[order])]
                    only = [order for order in orders if those == seen[order]]
                    for place, kept in enumerate((hide, show, only)):
                        found[place][bool(kept)] += 1
                    self.check_those(fence, those, hide, show, only)
        self.assertGreater(min(min(pair) for pair in found), 200)

    def check_those(self, fence, those, hide, show, only):
        for call, made, kept in ((shown.may_hide, shown.hiding_order, hide),
                                 (shown.may_show, shown.showing_order, show),
                                 (shown.can_be_just, shown.just_order, only)):
            self.check(call(fence, those), bool(kept))
            order = made(fence, those)
            self.assertIs(type(order), tuple if kept else type(None))
            self.assertTrue(order in kept if kept else order is None)

    def check_just(self, fence, just):
        sizes = [len(those) for those in just]
        self.check(shown.fewest_seen(fence), min(sizes))
        self.check(shown.most_seen(fence), max(sizes))
        self.check(shown.how_many_just(fence), len(just))
        self.check(shown.all_just(fence), just)
        for those, size in ((shown.fewest_set(fence), min(sizes)), (shown.most_set(fence), max(sizes))):
            self.assertIn(those, just)
            self.assertEqual(len(those), size)

    def test_own_pieces_cell_by_cell(self):
        chance = random.Random(14)
        for at in range(100):
            fence = small_fence(chance, "abcd"[:1 + at % 4])
            for name in bills.names(fence):
                cells = [cell for cell in range(8) if names_over(fence, cell) == [name]]
                own = shown.own_pieces(fence, name)
                self.check([cell for first, last in own for cell in range(first, last + 1)], cells)
                self.assertLessEqual(set(own), set(bills.pieces(fence)))


class Bounds(Case):
    def test_twelve_bills(self):
        every = bills.names(NESTED)
        self.check(shown.surely_seen(NESTED), ("a",))
        self.check(shown.may_hide(NESTED, every[1:]), True)
        self.check(shown.may_show(NESTED, every), True)
        self.check(shown.seen_in(NESTED, shown.showing_order(NESTED, every)), every)
        self.check(shown.seen_in(NESTED, shown.just_order(NESTED, ("a", "f", "l"))), ("a", "f", "l"))
        self.check(shown.just_order(NESTED, ("b", "f", "l")), None)
        self.check(shown.fewest_set(NESTED), ("a",))
        self.check(shown.fewest_seen(STAIRS), 12)
        self.check(shown.fewest_seen(SAME), 1)
        self.check(shown.may_show(SAME, ("a", "b")), False)

    def test_ten_bills(self):
        for fence, most, many in ((NESTED[:10], 10, 2 ** 9), (STAIRS[:10], 10, 1), (SAME[:10], 1, 10)):
            self.check(shown.most_seen(fence), most)
            self.check(len(shown.most_set(fence)), most)
            self.check(shown.how_many_just(fence), many)

    def test_eight_bills(self):
        for fence in (NESTED[:8], STAIRS[:8], SAME[:8]):
            found = shown.all_just(fence)
            self.assertEqual(found, sorted(set(found)))
            self.check(len(found), shown.how_many_just(fence))
            for those in found:
                self.check(shown.seen_in(fence, shown.just_order(fence, those)), those)


if __name__ == "__main__":
    unittest.main()
