"""BILLs pasted anew or torn off: against all rows and all sets of them, edges, wrong inputs."""

import itertools
import random
import unittest

from lastpasted import anew, bills
from tests.support import FAR, LONE, Case, names_over, small_fence, spoiled, top_said

BOARD = (("a", 1, 6), ("b", 4, 9), ("c", 2, 5))
NOW = ("a", "b", "c")
BOTH = ((3, "a"), (5, "b"))
NEVER = ((3, "a"), (5, "c"))
TOUCHING = (("a", 1, 2), ("b", 3, 4), ("c", 9, 9))
GREAT = tuple([(sign, -FAR + at, FAR - at) for at, sign in enumerate("abcdefghijkl")])


class Seen(Case):
    def test_top(self):
        for cell, wanted in ((0, "-"), (1, "a"), (3, "c"), (6, "b"), (9, "b"), (10, "-"), (FAR, "-")):
            self.check_all_ways(anew.top, wanted, fence=BOARD, order=NOW, cell=cell)
        self.check_all_ways(anew.top, "-", fence=(), order=(), cell=0)

    def test_shows(self):
        for wishes, wanted in ((((3, "c"), (8, "b")), True), (BOTH, False), ((), True), (((3, "a"), (8, "b")), False)):
            self.check_all_ways(anew.shows, wanted, fence=BOARD, order=NOW, wishes=wishes)
        self.check_all_ways(anew.shows, True, fence=(), order=(), wishes=())

    def test_shown_and_lacking(self):
        for wishes, shown in ((((3, "a"), (8, "b")), ((8, "b"),)), (BOTH, ()), ((), ()), (((3, "c"),), ((3, "c"),))):
            lacking = tuple([wish for wish in wishes if wish not in shown])
            self.check_all_ways(anew.shown, shown, fence=BOARD, order=NOW, wishes=wishes)
            self.check_all_ways(anew.lacking, lacking, fence=BOARD, order=NOW, wishes=wishes)


class Anew(Case):
    def test_pasted_anew(self):
        for order, row, wanted in ((NOW, ("a", "b"), ("c", "a", "b")), (NOW, (), NOW), (NOW, ("c",), NOW),
                                   (NOW, ("c", "b", "a"), ("c", "b", "a")), ((), (), ())):
            self.check_all_ways(anew.pasted_anew, wanted, order=order, row=row)

    def test_anew(self):
        for wishes, wanted in ((((3, "a"), (8, "b")), ("a",)), (BOTH, ("a", "b")), (((3, "c"),), ()), ((), ()),
                               (NEVER, None), (((3, "a"), (3, "c")), None), (((5, "a"),), ("a",)),
                               (((6, "a"),), ("a",))):
            self.check_all_ways(anew.anew, wanted, fence=BOARD, order=NOW, wishes=wishes)
            row = anew.anew_row(BOARD, NOW, wishes)
            self.check_all_ways(anew.anew_row, row, fence=BOARD, order=NOW, wishes=wishes)
            self.check_all_ways(anew.is_anew_row, row is not None, fence=BOARD, order=NOW, wishes=wishes, thing=row)
        self.check_all_ways(anew.anew, (), fence=(), order=(), wishes=())
        self.check_all_ways(anew.anew_row, (), fence=(), order=(), wishes=())
        self.check_all_ways(anew.anew, (), fence=TOUCHING, order=NOW, wishes=((2, "a"), (3, "b")))

    def test_is_anew_row(self):
        for thing, wanted in ((("a", "b"), True), (("b", "a"), False), (("a",), False), (("a", "b", "b"), False),
                              (["a", "b"], False), (("a", "b", "c"), False), (("c", "a", "b"), False), ((), False),
                              (("a", "d"), False), (("a", 1), False), (("a", None), False), ("ab", False),
                              (("a", ["b"]), False), (None, False)):
            self.check_all_ways(anew.is_anew_row, wanted, fence=BOARD, order=NOW, wishes=BOTH, thing=thing)
        for thing in LONE:
            self.check(anew.is_anew_row(BOARD, NOW, BOTH, thing), False)
            self.check(anew.is_anew_row(BOARD, NOW, ((3, "a"),), thing), thing == ("a",) and type(thing) is tuple)
            self.check(anew.is_anew_row(BOARD, NOW, (), thing), thing == () and type(thing) is tuple)
            self.check(anew.is_anew_row(BOARD, NOW, NEVER, thing), False)

    def test_spoiled_rows(self):
        for thing in spoiled(("a", "b")):
            self.assertIs(anew.is_anew_row(BOARD, NOW, BOTH, thing), thing == ("a", "b"), repr(thing))

    def test_least_price(self):
        for wishes, prices, wanted in ((BOTH, (("a", 5),), 6), (NEVER, (), None), (BOTH, (), 2), ((), (("a", 5),), 0),
                                       (BOTH, (("a", 0), ("b", 0)), 0), (BOTH, (("a", FAR), ("b", FAR)), 2 * FAR),
                                       (BOTH, (("a", 5), ("c", 9), ("x", 7)), 6), (NEVER, (("a", 0),), None),
                                       (((3, "a"),), (("b", 7),), 1)):
            self.check_all_ways(anew.least_price, wanted, fence=BOARD, order=NOW, wishes=wishes, prices=prices)
        self.check_all_ways(anew.least_price, 0, fence=(), order=(), wishes=(), prices=(("a", 3),))

    def test_to_tear(self):
        for wishes, wanted in ((((3, "a"),), ("c",)), (((2, "c"), (3, "a")), None), (((5, "a"),), ("b", "c")), ((), ()),
                               (((3, "c"), (8, "b")), ()), (((5, "b"),), ("c",)), (((5, "b"), (6, "a")), None),
                               (((5, "a"), (5, "b")), None), (((1, "a"), (6, "a")), ("b",))):
            self.check_all_ways(anew.to_tear, wanted, fence=BOARD, order=NOW, wishes=wishes)
        self.check_all_ways(anew.to_tear, (), fence=(), order=(), wishes=())


class StackAnew(Case):
    def test_anew_stack(self):
        for fence, one, other, wanted in ((BOARD, NOW, ("c", "a", "b"), ("a", "b")), (BOARD, NOW, NOW, ()),
                                          ((("a", 1, 2), ("b", 3, 4)), ("a", "b"), ("b", "a"), ()), ((), (), (), ()),
                                          (BOARD, NOW, ("a", "c", "b"), ("b",)), (BOARD, NOW, ("b", "c", "a"), ("a",)),
                                          (BOARD, NOW, ("c", "b", "a"), ("a", "b")), (TOUCHING, NOW, NOW[::-1], ())):
            self.check_all_ways(anew.anew_stack, wanted, fence=fence, one=one, other=other)
            row = anew.stack_row(fence, one, other)
            self.check_all_ways(anew.stack_row, row, fence=fence, one=one, other=other)
            self.check_all_ways(anew.is_stack_row, True, fence=fence, one=one, other=other, thing=row)

    def test_is_stack_row(self):
        other = ("c", "a", "b")
        for thing, wanted in ((("a", "b"), True), (("b", "a"), False), (("a",), False), (["a", "b"], False),
                              ((), False), (("a", "b", "b"), False), (other, False), (("a", None), False),
                              (("a", ("b",)), False),
                              (None, False), ("ab", False), (("a", "c"), False)):
            self.check_all_ways(anew.is_stack_row, wanted, fence=BOARD, one=NOW, other=other, thing=thing)
        for thing in LONE:
            self.check(anew.is_stack_row(BOARD, NOW, other, thing), False)
            self.check(anew.is_stack_row(BOARD, NOW, NOW, thing), thing == () and type(thing) is tuple)
        for thing in spoiled(("a", "b")):
            self.assertIs(anew.is_stack_row(BOARD, NOW, other, thing), thing == ("a", "b"), repr(thing))


def shows_said(fence, order, wishes):
    return all(top_said(fence, order, cell) == name for cell, name in wishes)


def alike_said(fence, one, other):
    return all((one.index(a) < one.index(b)) == (other.index(a) < other.index(b))
               for a, b in itertools.combinations(one, 2) if bills.meet(fence, a, b))


def all_rows(known):
    for many in range(len(known) + 1):
        yield from itertools.permutations(known, many)


class AllSmallRows(Case):
    def test_wishes_against_all_rows(self):
        chance = random.Random(21)
        found = [0, 0]
        for _ in range(400):
            fence = small_fence(chance, "abcd"[:chance.randint(0, 4)])
            known = bills.names(fence)
            order = tuple(chance.sample(known, len(known)))
            every = [(cell, name) for cell in range(7) for name in names_over(fence, cell)]
            wishes = tuple(sorted(chance.sample(every, min(len(every), chance.randint(0, 4)))))
            rows = [row for row in all_rows(known) if shows_said(
                fence, tuple([name for name in order if name not in row]) + row, wishes)]
            self.check_seen(fence, order, wishes)
            self.check_rows(fence, order, wishes, rows)
            self.check_prices(chance, fence, order, wishes, rows)
            self.check_tearing(fence, order, wishes)
            found[bool(rows)] += 1
        self.assertGreater(min(found), 50)

    def check_seen(self, fence, order, wishes):
        for cell in range(-1, 8):
            self.check(anew.top(fence, order, cell), top_said(fence, order, cell))
        shown = tuple([wish for wish in wishes if top_said(fence, order, wish[0]) == wish[1]])
        self.check(anew.shown(fence, order, wishes), shown)
        self.check(anew.lacking(fence, order, wishes), tuple([wish for wish in wishes if wish not in shown]))
        self.check(anew.shows(fence, order, wishes), shown == wishes)

    def check_rows(self, fence, order, wishes, rows):
        least = min(rows, key=len, default=None)
        some = None if least is None else tuple(sorted(least))
        self.check(anew.anew(fence, order, wishes), some)
        self.assertTrue(all(set(some) <= set(row) for row in rows))
        for row in all_rows(order):
            wanted = row in rows and len(row) == len(some)
            self.check(anew.is_anew_row(fence, order, wishes, row), wanted)
        found = anew.anew_row(fence, order, wishes)
        self.assertTrue(found is None if least is None else found in rows and sorted(found) == sorted(some))

    def check_prices(self, chance, fence, order, wishes, rows):
        prices = {name: chance.randint(0, 3) for name in chance.sample("abcdxy", chance.randint(0, 6))}
        sums = [sum(prices.get(name, 1) for name in row) for row in rows]
        self.check(anew.least_price(fence, order, wishes, tuple(sorted(prices.items()))), min(sums, default=None))

    def check_tearing(self, fence, order, wishes):
        sets = [gone for many in range(len(order) + 1) for gone in itertools.combinations(sorted(order), many)
                if shows_said(bills.without(fence, gone), [name for name in order if name not in gone], wishes)]
        found = anew.to_tear(fence, order, wishes)
        self.check(found, sets[0] if sets else None)
        self.assertTrue(all(set(found) <= set(gone) for gone in sets))

    def test_stacks_against_all_rows(self):
        chance = random.Random(22)
        for _ in range(200):
            fence = small_fence(chance, "abcd"[:chance.randint(0, 4)])
            known = bills.names(fence)
            one, other = tuple(chance.sample(known, len(known))), tuple(chance.sample(known, len(known)))
            rows = [row for row in all_rows(known) if alike_said(
                fence, tuple([name for name in one if name not in row]) + row, other)]
            some = tuple(sorted(min(rows, key=len)))
            self.check(anew.anew_stack(fence, one, other), some)
            self.assertIn(anew.stack_row(fence, one, other), rows)
            for row in all_rows(known):
                self.check(anew.is_stack_row(fence, one, other, row), row in rows and len(row) == len(some))
                wanted = tuple([name for name in one if name not in row]) + row
                self.check(anew.pasted_anew(one, row), wanted)

    def test_at_the_bounds(self):
        order = bills.names(GREAT)
        wishes = tuple([(cell, "f") for cell in range(39)] + [(FAR, "a")])
        self.check(anew.anew(GREAT, order, wishes), ("f",))
        self.check(anew.anew_row(GREAT, order, wishes), ("f",))
        self.check(anew.to_tear(GREAT, order, wishes), tuple("ghijkl"))
        self.check(anew.least_price(GREAT, order, wishes, (("f", FAR),)), FAR)
        self.check(anew.anew(GREAT, order, ((0, "f"), (FAR - 5, "e"))), None)
        self.check(anew.anew_stack(GREAT, order, order[::-1]), tuple("abcdefghijk"))
        self.check(anew.stack_row(GREAT, order, order[::-1]), tuple("kjihgfedcba"))


if __name__ == "__main__":
    unittest.main()
