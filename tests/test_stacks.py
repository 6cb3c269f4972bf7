"""STACKs: against all orders, edges, numbers there and back, wrong inputs."""

import itertools
import math
import random
import unittest

from lastpasted import bills, stacks
from tests.support import FAR, LONE, Case, small_fence, spoiled, top_said

POLES = (("a", 1, 6), ("b", 4, 9), ("c", 2, 5), ("d", 8, 12))
LOW = (("b", "a"), ("b", "c"), ("c", "a"), ("d", "b"))
RING = (("a", "b"), ("b", "c"), ("c", "a"), ("d", "b"))
TOUCHING = (("a", 1, 2), ("b", 3, 4), ("c", 9, 9))
GREAT = tuple([(sign, -FAR + at, FAR - at) for at, sign in enumerate("abcdefghijkl")])


class Orders(Case):
    def test_is_full_order(self):
        for thing, wanted in ((("a", "b", "c", "d"), True), (("d", "b", "a", "c"), True), (("a", "b", "c"), False),
                              (["a", "b", "c", "d"], False), (("a", "b", "c", "d", "d"), False), ((), False),
                              (("a", "b", "c", "e"), False), (("a", "b", "c", 4), False), ("abcd", False),
                              (("a", "b", "c", ["d"]), False), (("a", "b", "c", None), False)):
            self.check_all_ways(stacks.is_full_order, wanted, fence=POLES, thing=thing)
        for thing in LONE:
            self.check(stacks.is_full_order(POLES, thing), False)
            self.check(stacks.is_full_order((), thing), type(thing) is tuple and thing == ())

    def test_spoiled_orders(self):
        for thing in spoiled(("d", "b", "a", "c")):
            wanted = type(thing) is tuple and all(type(part) is str for part in thing) and sorted(thing) == list("abcd")
            self.assertIs(stacks.is_full_order(POLES, thing), wanted)

    def test_stack_of(self):
        for fence, order, wanted in ((POLES, ("a", "c", "d", "b"), (("a", "b"), ("a", "c"), ("c", "b"), ("d", "b"))),
                                     (POLES, ("d", "b", "c", "a"), LOW), ((), (), ()), (TOUCHING, ("c", "b", "a"), ())):
            self.check_all_ways(stacks.stack_of, wanted, fence=fence, order=order)

    def test_same_stack(self):
        for one, other, wanted in (("acdb", "dacb", True), ("acdb", "acbd", False), ("acdb", "acdb", True)):
            self.check_all_ways(stacks.same_stack, wanted, fence=POLES, one=tuple(one), other=tuple(other))
        self.check_all_ways(stacks.same_stack, True, fence=TOUCHING, one=("a", "b", "c"), other=("c", "b", "a"))
        self.check_all_ways(stacks.same_stack, True, fence=(), one=(), other=())

    def test_exchanges(self):
        for one, other, wanted in (("acbd", "dbca", 4), ("acdb", "dacb", 0), ("acdb", "acdb", 0), ("abcd", "bacd", 1)):
            self.check_all_ways(stacks.exchanges, wanted, fence=POLES, one=tuple(one), other=tuple(other))
            self.check_all_ways(stacks.exchanges, wanted, fence=POLES, one=tuple(other), other=tuple(one))
        self.check_all_ways(stacks.exchanges, 0, fence=(), one=(), other=())


class Stacks(Case):
    def test_is_stack(self):
        for thing, wanted in ((LOW, True), (RING, False), (LOW[1:], False), (LOW[:-1], False), (list(LOW), False),
                              (LOW[::-1], False), (LOW + LOW[-1:], False), ((), False), (LOW + (("d", "c"),), False),
                              ((["b", "a"],) + LOW[1:], False), ((("b", "a", "c"),) + LOW[1:], False),
                              ((("b", 1),) + LOW[1:], False), ((None,) + LOW[1:], False), ((("b",),) + LOW[1:], False),
                              ((("a", "b"), ("b", "a"), ("b", "c"), ("c", "a"), ("d", "b")), False),
                              ((("a", "a"),) + LOW[1:], False), (tuple(sorted(LOW[1:] + (("a", "b"),))), False)):
            self.check_all_ways(stacks.is_stack, wanted, fence=POLES, thing=thing)
        for thing in LONE:
            self.check(stacks.is_stack(POLES, thing), False)
            self.check(stacks.is_stack(POLES, (thing,)), False)
            self.check(stacks.is_stack(POLES, ((thing, "a"),) + LOW[1:]), thing == "b")
            self.check(stacks.is_stack((), thing), type(thing) is tuple and thing == ())
        self.check(stacks.is_stack(TOUCHING, ()), True)
        self.check(stacks.is_stack(TOUCHING, (("a", "b"),)), False)

    def test_spoiled_stacks(self):
        every = [stacks.stack_of(POLES, order) for order in itertools.permutations("abcd")]
        for thing in spoiled(LOW):
            wanted = type(thing) is tuple and all(type(part) is tuple for part in thing) and thing in every
            self.assertIs(stacks.is_stack(POLES, thing), wanted, repr(thing))

    def test_no_three_go_round(self):
        fence = (("a", 0, 9), ("b", 0, 9), ("c", 0, 9), ("d", 0, 9))
        orders = itertools.permutations("abcd")
        every = {stacks.stack_of(fence, order) for order in orders}
        found = 0
        for way in itertools.product((1, -1), repeat=6):
            thing = tuple(sorted([pair[::step] for pair, step in zip(itertools.combinations("abcd", 2), way)]))
            self.check(stacks.is_stack(fence, thing), thing in every)
            found += thing in every
        self.assertEqual(found, 24)

    def test_beyond_the_bounds(self):
        fence = tuple([(one + other, at, at + 3) for at, (one, other) in
                       enumerate(itertools.product("abcdef", repeat=2))])
        order = bills.names(fence)
        self.check(stacks.is_full_order(fence, order[::-1]), True)
        self.check(stacks.is_stack(fence, stacks.stack_of(fence, order)), True)
        self.check(stacks.is_stack(fence, stacks.stack_of(fence, order)[1:]), False)

    def test_order_of_and_least_order(self):
        for fence, stack, wanted in ((POLES, LOW, ("d", "b", "c", "a")), ((), (), ()), (TOUCHING, (), ("a", "b", "c")),
                                     (POLES, stacks.stack_of(POLES, ("a", "c", "d", "b")), ("a", "c", "d", "b")),
                                     (POLES, stacks.stack_of(POLES, ("d", "c", "a", "b")), ("c", "a", "d", "b"))):
            self.check_all_ways(stacks.least_order, wanted, fence=fence, stack=stack)
            found = stacks.order_of(fence, stack)
            self.check(stacks.stack_of(fence, found), stack)
            self.check_all_ways(stacks.order_of, found, fence=fence, stack=stack)

    def test_how_many_orders(self):
        for fence, stack, wanted in ((POLES, LOW, 1), (POLES, stacks.stack_of(POLES, ("a", "c", "d", "b")), 3),
                                     ((), (), 1), (TOUCHING, (), 6)):
            self.check_all_ways(stacks.how_many_orders, wanted, fence=fence, stack=stack)

    def test_on_top(self):
        for fence, stack, cell, wanted in ((POLES, LOW, 4, "a"), (POLES, LOW, 8, "b"), (POLES, LOW, 13, "-"),
                                           (POLES, LOW, 12, "d"), (POLES, LOW, -FAR, "-"), ((), (), 0, "-"),
                                           (TOUCHING, (), 2, "a"), (TOUCHING, (), 3, "b"), (TOUCHING, (), 5, "-")):
            self.check_all_ways(stacks.on_top, wanted, fence=fence, stack=stack, cell=cell)

    def test_torn_off(self):
        for gone, wanted in ((("b",), (("c", "a"),)), ((), LOW), (("a", "d"), (("b", "c"),)),
                             (("a", "b", "c", "d"), ()),
                             (("c",), (("b", "a"), ("d", "b")))):
            self.check_all_ways(stacks.torn_off, wanted, fence=POLES, stack=LOW, gone=gone)
        self.check_all_ways(stacks.torn_off, (), fence=(), stack=(), gone=())

    def test_torn_off_nobody(self):
        for gone, name in ((("b", "x"), "x"), (("x", "y"), "x"), (("aa", "b"), "aa")):
            self.refused_all_ways("NoName", {"name": name}, stacks.torn_off, fence=POLES, stack=LOW, gone=gone)
        self.refused_all_ways("NoName", {"name": "a"}, stacks.torn_off, fence=(), stack=(), gone=("a",))


class Numbers(Case):
    def test_how_many_stacks(self):
        for fence, wanted in ((POLES, 12), ((), 1), (TOUCHING, 1), (GREAT, math.factorial(12))):
            self.check_all_ways(stacks.how_many_stacks, wanted, fence=fence)

    def test_nth_stack(self):
        for fence, number, wanted in ((POLES, 0, LOW), (POLES, 11, stacks.stack_of(POLES, ("a", "c", "b", "d"))),
                                      (POLES, 10, stacks.stack_of(POLES, ("a", "c", "d", "b"))), ((), 0, ()),
                                      (TOUCHING, 0, ())):
            self.check_all_ways(stacks.nth_stack, wanted, fence=fence, number=number)
            self.check_all_ways(stacks.number_of_stack, number, fence=fence, stack=wanted)

    def test_no_number(self):
        for fence, number in ((POLES, 12), (POLES, -1), (POLES, FAR), (POLES, -FAR), ((), 1), ((), -1), (TOUCHING, 1),
                              (GREAT, math.factorial(12))):
            self.refused_all_ways("NoNumber", {"number": number}, stacks.nth_stack, fence=fence, number=number)

    def test_there_and_back(self):
        for number in (0, 1, 11, 12345678, math.factorial(12) - 1):
            stack = stacks.nth_stack(GREAT, number)
            self.check(stacks.is_stack(GREAT, stack), True)
            self.check(stacks.number_of_stack(GREAT, stack), number)
        self.check(stacks.order_of(GREAT, stacks.nth_stack(GREAT, 0)), tuple("lkjihgfedcba"))
        self.check(stacks.order_of(GREAT, stacks.nth_stack(GREAT, math.factorial(12) - 1)), tuple("abcdefghijkl"))

    def test_many_orders(self):
        fence = tuple([(sign, at, at) for at, sign in enumerate("abcdefgh")])
        self.check(stacks.how_many_orders(fence, ()), math.factorial(8))


def counts_said(fence, order):
    """For each BILL, by first CELLs and NAMEs, how many of those ahead that meet it lie below it."""
    row = sorted(fence, key=lambda bill: (bill[1], bill[0]))
    counts = []
    for at, (name, first, last) in enumerate(row):
        met = [other for other, low, high in row[:at] if low <= last and first <= high]
        counts.append(sum(order.index(other) < order.index(name) for other in met))
    return tuple(counts)


def fewest_exchanges(fence, one, other):
    """Exchange neighbours, those that do not meet at no cost, until the order has the other one's STACK."""
    wanted, cost, reached = stacks.stack_of(fence, other), 0, {one}
    while True:
        left = list(reached)
        while left:
            order = left.pop()
            if stacks.stack_of(fence, order) == wanted:
                return cost
            for at in range(len(order) - 1):
                if not bills.meet(fence, order[at], order[at + 1]):
                    after = order[:at] + (order[at + 1], order[at]) + order[at + 2:]
                    if after not in reached:
                        reached.add(after)
                        left.append(after)
        cost += 1
        reached |= {order[:at] + (order[at + 1], order[at]) + order[at + 2:]
                    for order in reached for at in range(len(order) - 1)}


class AllSmallOrders(Case):
    def fences(self, seed, many, longest):
        chance = random.Random(seed)
        for _ in range(many):
            yield small_fence(chance, "abcde"[:chance.randint(0, longest)])

    def test_against_all_orders(self):
        for fence in self.fences(4, 60, 5):
            groups = {}
            for order in itertools.permutations(bills.names(fence)):
                self.check(stacks.is_full_order(fence, order), True)
                pairs = [(low, high) for low, high in itertools.combinations(order, 2)
                         if any(low in over and high in over for over in bills.over_pieces(fence))]
                self.check(stacks.stack_of(fence, order), tuple(sorted(pairs)))
                groups.setdefault(tuple(sorted(pairs)), []).append(order)
            self.check(stacks.how_many_stacks(fence), len(groups))
            self.check_groups(fence, groups)

    def check_groups(self, fence, groups):
        numbered = sorted(groups, key=lambda stack: counts_said(fence, groups[stack][0]))
        for number, stack in enumerate(numbered):
            orders = groups[stack]
            self.check(stacks.is_stack(fence, stack), True)
            self.assertIn(stacks.order_of(fence, stack), orders)
            self.check(stacks.least_order(fence, stack), min(orders))
            self.check(stacks.how_many_orders(fence, stack), len(orders))
            self.check(stacks.nth_stack(fence, number), stack)
            self.check(stacks.number_of_stack(fence, stack), number)
            for cell in range(-1, 8):
                self.check(stacks.on_top(fence, stack, cell), top_said(fence, orders[0], cell))

    def test_torn_off_and_exchanges(self):
        chance = random.Random(6)
        for fence in self.fences(7, 60, 4):
            orders = list(itertools.permutations(bills.names(fence)))
            for _ in range(5):
                one, other = chance.choice(orders), chance.choice(orders)
                self.check(stacks.exchanges(fence, one, other), fewest_exchanges(fence, one, other))
                alike = stacks.stack_of(fence, one) == stacks.stack_of(fence, other)
                self.check(stacks.same_stack(fence, one, other), alike)
                gone = tuple(sorted(chance.sample(one, chance.randint(0, len(one)))))
                left = bills.without(fence, gone)
                wanted = stacks.stack_of(left, [name for name in one if name not in gone])
                self.check(stacks.torn_off(fence, stacks.stack_of(fence, one), gone), wanted)

    def test_no_other_stack(self):
        for fence in self.fences(8, 40, 4):
            every = {stacks.stack_of(fence, order) for order in itertools.permutations(bills.names(fence))}
            met = bills.meeting(fence)
            for way in itertools.product((1, -1), repeat=len(met)):
                thing = tuple(sorted([pair[::step] for pair, step in zip(met, way)]))
                self.check(stacks.is_stack(fence, thing), thing in every)


if __name__ == "__main__":
    unittest.main()
