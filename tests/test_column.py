"""BILLs round a COLUMN: CELL by CELL, against all ORDERs and all ROUNDs, edges, wrong inputs, and at the bounds."""

import itertools
import random
import unittest

from lastpasted import column, pairs
from tests.support import FAR, LONE, Case, name, number, small_fence, spoiled

RING = (("a", 0, 3), ("b", 2, 5), ("c", 4, 1))
SAW = ((0, "c"), (3, "a"), (4, "b"))
BACK = ((1, "a"), (3, "b"), (5, "c"))
WHOLE = (("a", 3, 2), ("b", 0, 5), ("c", 5, 5))
FOUR = (("a", 0, 10), ("b", 10, 20), ("c", 20, 30), ("d", 30, 0))
WIDE = (("a", 2, 0), ("b", 5, 3), ("c", 8, 6))
FOUR_SAW = ((0, "d"), (10, "a"), (20, "b"), (30, "c"))


def cells_said(size, bill):
    """The CELLs under this BILL, gone through one by one."""
    _, first, last = bill
    cells = [first]
    while cells[-1] != last:
        cells.append((cells[-1] + 1) % size)
    return cells


def over_said(size, bills, cell):
    return tuple([bill[0] for bill in bills if cell in cells_said(size, bill)])


def fits_said(size, bills, sights, order):
    for cell, seen in sights:
        if [one for one in order if one in over_said(size, bills, cell)][-1] != seen:
            return False
    return True


def way_up(size, begin, end):
    """The CELLs from begin up to end, round the column."""
    return cells_said(size, ("x", begin, end))


def is_round_said(size, bills, row):
    """What the document says of a ROUND, for an ascending tuple of SIGHTS, said once more in other words."""
    cells = [cell for cell, _ in row]
    if len(row) < 3 or len(set(cells)) < len(row) or len({seen for _, seen in row}) < len(row):
        return False
    under = {bill[0]: cells_said(size, bill) for bill in bills}
    if any(len([cell for cell in cells if cell in under[seen]]) != 2 for _, seen in row):
        return False
    ahead = [set(way_up(size, row[at - 1][0], row[at][0])) <= set(under[row[at][1]]) for at in range(len(row))]
    behind = [set(way_up(size, row[at - 1][0], row[at][0])) <= set(under[row[at - 1][1]]) for at in range(len(row))]
    return all(ahead) or all(behind)


def rounds_said(size, bills, sights):
    """All ROUNDs of these SIGHTS."""
    found = []
    for many in range(3, len(bills) + 1):
        found += [row for row in itertools.combinations(sights, many) if is_round_said(size, bills, row)]
    return found


def every_sight(size, bills):
    return [(cell, seen) for cell in range(size) for seen in over_said(size, bills, cell)]


def small_columns(seed, many, most, sizes=(1, 9)):
    """Small COLUMNs, every second one of BILLs that lie over about a third of it, which ROUNDs are made of."""
    chance = random.Random(seed)
    for at in range(many):
        size = chance.randint(*sizes)
        bills = []
        for sign in "abcdef"[:at // 2 % (most + 1)]:
            first = chance.randrange(size)
            further = chance.randint(size // 4, size // 2) if at % 2 else chance.randrange(size)
            bills.append((sign, first, (first + further) % size))
        yield size, tuple(bills)


def some_sights(chance, size, bills, many):
    """Up to so many SIGHTS, now and then with a ROUND among them."""
    every = every_sight(size, bills)
    sights = chance.sample(every, min(len(every), chance.randint(0, many)))
    rounds = rounds_said(size, bills, every) if chance.randrange(2) else []
    if rounds:
        sights = sights[:chance.randint(0, 3)] + list(chance.choice(rounds))
    return tuple(sorted(set(sights)))


class Columns(Case):
    def test_is_column(self):
        for size, thing, wanted in (
                (6, RING, True), (5, RING, False), (6, (("a", 3, 2),), True), (6, (), True), (1, (("a", 0, 0),), True),
                (1, (("a", 0, 1),), False), (6, RING[::-1], False), (6, RING[:1] + RING[:1], False), (6, WHOLE, True),
                (6, (("a", 0, 3), ("a", 1, 2)), False), (6, (("a", -1, 3),), False), (6, (("a", 0, 6),), False),
                (6, (("a", True, 3),), False), (6, (("a", 1, False),), False), (6, (("A", 1, 3),), False),
                (6, (("abcdefghi", 1, 3),), False), (6, (("", 1, 3),), False), (6, (("a", "1", 3),), False),
                (6, (["a", 1, 3],), False), (6, list(RING), False), (6, (("a", 1),), False), (6, ("a", 0, 3), False),
                (FAR, (("a", FAR - 1, FAR - 2),), True), (FAR ** 2, (("a", FAR, 0),), True), (6, None, False),
                (6, tuple([(sign, 0, 5) for sign in "abcdefghijklmnopqrstuvwxyz"]), True)):
            self.check_all_ways(column.is_column, wanted, size=size, thing=thing)
        for thing in LONE:
            self.check(column.is_column(6, thing), type(thing) is tuple and thing == ())

    def test_spoiled_columns(self):
        found = [0, 0]
        for thing in spoiled(RING):
            wanted = type(thing) is tuple and all(
                type(part) is tuple and len(part) == 3 and name(part[0]) and number(part[1]) and number(part[2])
                and 0 <= part[1] < 6 and 0 <= part[2] < 6 for part in thing)
            wanted = wanted and [part[0] for part in thing] == sorted({part[0] for part in thing})
            self.assertIs(column.is_column(6, thing), wanted, repr(thing))
            found[wanted] += 1
        self.assertGreater(min(found), 10)

    def test_over_round(self):
        for size, bills, cell, wanted in ((6, RING, 0, ("a", "c")), (6, RING, 2, ("a", "b")), (6, RING, 5, ("b", "c")),
                                          (6, WHOLE, 4, ("a", "b")), (6, WHOLE, 5, ("a", "b", "c")), (6, (), 3, ()),
                                          (1, (("a", 0, 0),), 0, ("a",)), (FAR, FOUR, 31, ("d",)),
                                          (50, FOUR, 0, ("a", "d")),
                                          (FAR, (("a", FAR - 3, 2),), FAR - 1, ("a",)), (9, (("a", 8, 1),), 5, ())):
            self.check_all_ways(column.over_round, wanted, size=size, column=bills, cell=cell)

    def test_meet_round(self):
        for size, bills, wanted in ((6, RING, (("a", "b"), ("a", "c"), ("b", "c"))), (6, (), ()), (6, RING[:1], ()),
                                    (FAR, FOUR, (("a", "b"), ("a", "d"), ("b", "c"), ("c", "d"))),
                                    (9, (("a", 0, 3), ("b", 4, 8)), ()), (9, (("a", 7, 3), ("b", 5, 8)), (("a", "b"),)),
                                    (9, (("a", 7, 3), ("b", 4, 6)), ()), (9, (("a", 1, 8), ("b", 0, 0)), ())):
            self.check_all_ways(column.meet_round, wanted, size=size, column=bills)

    def test_round_turned(self):
        for size, bills, many, wanted in ((6, RING, 2, (("a", 2, 5), ("b", 4, 1), ("c", 0, 3))), (6, RING, 0, RING),
                                          (6, RING, 6 * FAR, RING),
                                          (6, RING, -1, (("a", 5, 2), ("b", 1, 4), ("c", 3, 0))),
                                          (6, (), 5, ()), (1, (("a", 0, 0),), FAR, (("a", 0, 0),)),
                                          (6, (("a", 3, 2),), 4, (("a", 1, 0),)),
                                          (FAR, FOUR[:1], -1, (("a", FAR - 1, 9),))):
            self.check_all_ways(column.round_turned, wanted, size=size, column=bills, number=many)


class Orders(Case):
    def test_orders(self):
        for size, bills, sights, wanted in ((6, RING, SAW, False), (6, RING, SAW[:2], True), (6, RING, (), True),
                                            (6, RING, BACK, False), (6, RING, BACK[1:], True), (6, (), (), True),
                                            (6, RING, ((2, "a"), (3, "b")), False),
                                            (6, WHOLE, ((5, "c"), (4, "a")), True),
                                            (1, (("a", 0, 0), ("b", 0, 0)), ((0, "a"), (0, "b")), False),
                                            (FAR, FOUR, FOUR_SAW, False), (FAR, FOUR, FOUR_SAW[1:], True)):
            sights = tuple(sorted(sights))
            self.check_all_ways(column.can_hold_round, wanted, size=size, column=bills, sights=sights)
            order = column.round_order(size, bills, sights)
            self.assertEqual(order is not None, wanted)
            self.check_all_ways(column.round_order, order, size=size, column=bills, sights=sights)
            self.check_all_ways(column.is_round_order, wanted, size=size, column=bills, sights=sights, thing=order)

    def test_is_round_order(self):
        for thing, wanted in ((("b", "a", "c"), True), (("a", "b", "c"), False), (("c", "b", "a"), False),
                              (None, False),
                              (["b", "a", "c"], False), (("b", "a"), False), (("b", "a", "c", "c"), False), ((), False),
                              (("b", "a", "d"), False), ("bac", False), (("b", "a", 1), False),
                              (("b", "a", ("c",)), False)):
            self.check_all_ways(column.is_round_order, wanted, size=6, column=RING, sights=SAW[:2], thing=thing)
        for thing in spoiled(("b", "a", "c")):
            self.assertIs(column.is_round_order(6, RING, SAW[:2], thing), thing == ("b", "a", "c"), repr(thing))
        for thing in LONE:
            self.check(column.is_round_order(6, (), (), thing), type(thing) is tuple and thing == ())

    def test_clashing_sights(self):
        both = ((2, "a"), (3, "b"))
        for size, bills, sights, wanted in ((6, RING, both, (both,)), (6, RING, SAW, ()), (6, RING, (), ()),
                                            (6, RING, ((0, "a"), (0, "c"), (1, "c")),
                                             (((0, "a"), (0, "c")), ((0, "a"), (1, "c")))),
                                            (6, RING, ((2, "a"), (3, "a")), ()), (6, RING, ((2, "a"), (4, "b")), ())):
            self.check_all_ways(column.clashing_sights, wanted, size=size, column=bills, sights=sights)

    def test_surely_above(self):
        for size, bills, sights, wanted in ((6, RING, SAW[:2], (("a", "b"), ("c", "a"), ("c", "b"))), (6, RING, (), ()),
                                            (6, RING, SAW[:1], (("c", "a"),)), (6, (), (), ()),
                                            (FAR, FOUR, FOUR_SAW[2:], (("b", "c"), ("b", "d"), ("c", "d")))):
            self.check_all_ways(column.surely_above, wanted, size=size, column=bills, sights=sights)

    def test_round_answers(self):
        for size, bills, sights, cell, wanted in ((6, RING, SAW[:2], 5, ("c",)), (6, RING, (), 5, ("b", "c")),
                                                  (6, RING, SAW[1:], 0, ("a",)), (6, (), (), 5, ("-",)),
                                                  (FAR, FOUR, (), 31, ("d",)), (9, FOUR[:0], (), 0, ("-",)),
                                                  (FAR, FOUR[:2], (), 21, ("-",)),
                                                  (FAR, FOUR, FOUR_SAW[1:], 0, ("a",))):
            self.check_all_ways(column.round_answers, wanted, size=size, column=bills, sights=sights, cell=cell)

    def test_no_history(self):
        for sights in (SAW, BACK, ((2, "a"), (3, "b")), ((0, "a"), (0, "c"))):
            self.refused_all_ways("NoHistory", {}, column.surely_above, size=6, column=RING, sights=sights)
            for cell in range(6):
                self.refused_all_ways("NoHistory", {}, column.round_answers, size=6, column=RING, sights=sights,
                                      cell=cell)
        bare = FOUR[:2] + (("e", 10, 15),)
        self.refused_all_ways("NoHistory", {}, column.round_answers, size=FAR, column=bare,
                              sights=((10, "a"), (10, "b")), cell=FAR - 1)

    def test_how_many_round_stacks(self):
        for size, bills, wanted in ((6, RING, 6), (FAR, FOUR, 14), (6, (), 1), (6, RING[:1], 1), (6, RING[:2], 2),
                                    (6, WHOLE, 6), (9, (("a", 0, 3), ("b", 4, 8)), 1)):
            self.check_all_ways(column.how_many_round_stacks, wanted, size=size, column=bills)


class Rounds(Case):
    def test_a_round(self):
        for size, bills, sights, wanted in ((6, RING, SAW, SAW), (6, RING, BACK, BACK), (6, RING, SAW[:2], None),
                                            (6, RING, (), None), (6, (), (), None),
                                            (6, RING, ((2, "a"), (3, "b")), None),
                                            (FAR, FOUR, FOUR_SAW, FOUR_SAW), (FAR, FOUR, FOUR_SAW[1:], None),
                                            (6, RING, tuple(sorted(SAW + ((2, "a"), (3, "b")))), None),
                                            (6, WHOLE, ((0, "a"), (1, "b"), (5, "c")), None)):
            found = column.a_round(size, bills, sights)
            self.check_all_ways(column.a_round, found, size=size, column=bills, sights=sights)
            if wanted is not None:
                self.check(found, wanted)
            self.check(column.is_round(size, bills, sights, found), bool(rounds_said(min(size, 40), bills, sights)))

    def test_rounds_beside_sights_that_clash(self):
        sights = tuple(sorted(SAW + ((2, "a"), (3, "b"))))
        self.assertTrue(column.clashing_sights(6, RING, sights))
        self.check(column.is_round(6, RING, sights, column.a_round(6, RING, sights)), True)

    def test_is_round(self):
        for thing, wanted in ((SAW, True), (SAW[1:], False), (SAW[::-1], False), (SAW[1:] + SAW[:1], False),
                              (list(SAW), False), (tuple([list(sight) for sight in SAW]), False), ((), False),
                              (SAW[:1] * 3, False), (SAW + SAW[2:], False), (None, False),
                              (((False, "c"),) + SAW[1:], False),
                              (((0, "c"), (3, "b"), (4, "b")), False), (SAW + ((5, "c"),), False), (BACK, False),
                              (((0, "a"),) + SAW[1:], False), (((1, "c"),) + SAW[1:], False)):
            self.check_all_ways(column.is_round, wanted, size=6, column=RING, sights=SAW, thing=thing)
        every = tuple(every_sight(6, RING))
        self.check(column.is_round(6, RING, every, SAW), True)
        self.check(column.is_round(6, RING, every, BACK), True)
        self.check(column.is_round(6, RING, every, ((0, "c"), (3, "a"), (5, "c"))), False)
        self.check(column.is_round(6, RING, every, ((0, "c"), (3, "b"), (4, "b"))), False)
        for thing in LONE:
            self.check(column.is_round(6, RING, SAW, thing), False)

    def test_a_bool_is_no_cell(self):
        turned, saw = column.round_turned(6, RING, 1), ((1, "c"), (4, "a"), (5, "b"))
        self.check(column.is_round(6, turned, saw, saw), True)
        self.check(column.is_round(6, turned, saw, ((True, "c"),) + saw[1:]), False)

    def test_spoiled_rounds(self):
        for bills, row in ((RING, SAW), (RING, BACK), (FOUR, FOUR_SAW)):
            size = 6 if bills == RING else 40
            every = tuple(every_sight(size, bills))
            for thing in spoiled(row):
                wanted = type(thing) is tuple and all(
                    type(part) is tuple and len(part) == 2 and number(part[0]) and part in every for part in thing)
                wanted = wanted and list(thing) == sorted(set(thing)) and is_round_said(size, bills, thing)
                self.assertIs(column.is_round(size, bills, every, thing), wanted, repr(thing))
                self.assertIs(column.is_round(size, bills, row, thing), thing == row and wanted, repr(thing))

    def test_some_round(self):
        for size, bills, wanted in ((6, RING, True), (6, RING[:2], False), (FAR, FOUR, True), (6, (), False),
                                    (FAR, FOUR[:3], False), (6, WHOLE, False), (9, WIDE, True),
                                    (1, (("a", 0, 0), ("b", 0, 0)), False)):
            found = column.some_round(size, bills)
            self.check_all_ways(column.some_round, found, size=size, column=bills)
            self.assertEqual(found is not None, wanted)
            if wanted:
                self.check(column.is_round(size, bills, found, found), True)
                self.check(column.can_hold_round(size, bills, found), False)


class CellByCell(Case):
    def test_small_columns(self):
        for size, bills in small_columns(20, 200, 5):
            self.check(column.is_column(size, bills), True)
            for cell in range(size):
                self.check(column.over_round(size, bills, cell), over_said(size, bills, cell))
            met = [(one[0], other[0]) for one, other in itertools.combinations(bills, 2)
                   if set(cells_said(size, one)) & set(cells_said(size, other))]
            self.check(column.meet_round(size, bills), tuple(met))
            for many in (1, -3, size, 2 * size + 1):
                turned = column.round_turned(size, bills, many)
                self.check(column.is_column(size, turned), True)
                for bill, after in zip(bills, turned):
                    self.assertEqual(after[0], bill[0])
                    moved = [(cell + many) % size for cell in cells_said(size, bill)]
                    self.assertEqual(sorted(cells_said(size, after)), sorted(moved))
            self.check_stacks(size, bills, met)

    def check_stacks(self, size, bills, met):
        orders = itertools.permutations([bill[0] for bill in bills])
        kinds = {tuple([order.index(one) < order.index(other) for one, other in met]) for order in orders}
        self.check(column.how_many_round_stacks(size, bills), len(kinds))

    def test_against_all_orders(self):
        chance = random.Random(21)
        found = [0, 0, 0, 0]
        for size, bills in small_columns(22, 1500, 5, (3, 8)):
            sights = some_sights(chance, size, bills, 6)
            orders = list(itertools.permutations([bill[0] for bill in bills]))
            kept = [order for order in orders if fits_said(size, bills, sights, order)]
            self.check(column.can_hold_round(size, bills, sights), bool(kept))
            order = column.round_order(size, bills, sights)
            self.assertTrue(order in kept if kept else order is None)
            for order in orders[:30]:
                self.check(column.is_round_order(size, bills, sights, order), order in kept)
            clashing = [pair for pair in itertools.combinations(sights, 2)
                        if not any(fits_said(size, bills, pair, order) for order in orders)]
            self.check(column.clashing_sights(size, bills, sights), tuple(clashing))
            rounds = rounds_said(size, bills, sights)
            self.check_a_round(size, bills, sights, rounds)
            self.assertEqual(bool(kept), not clashing and not rounds)
            self.check_sure(size, bills, sights, kept)
            found[bool(clashing) + 2 * bool(rounds)] += 1
        self.assertGreater(min(found), 3)

    def check_a_round(self, size, bills, sights, rounds):
        row = column.a_round(size, bills, sights)
        self.assertTrue(row in rounds if rounds else row is None, (size, bills, sights))
        for row in rounds:
            self.check(column.is_round(size, bills, sights, row), True)

    def check_sure(self, size, bills, sights, kept):
        if not kept:
            self.refused("NoHistory", {}, column.surely_above, size, bills, sights)
            self.refused("NoHistory", {}, column.round_answers, size, bills, sights, 0)
            return
        above = [pair for pair in itertools.permutations([bill[0] for bill in bills], 2)
                 if all(order.index(pair[0]) > order.index(pair[1]) for order in kept)]
        self.check(column.surely_above(size, bills, sights), tuple(above))
        for cell in range(size):
            lying = over_said(size, bills, cell)
            seen = {[one for one in order if one in lying][-1] for order in kept} if lying else {"-"}
            self.check(column.round_answers(size, bills, sights, cell), tuple(sorted(seen)))

    def test_is_round_of_all_rows(self):
        chance = random.Random(23)
        found = [0, 0]
        for size, bills in small_columns(24, 500, 5, (4, 8)):
            sights = some_sights(chance, size, bills, 12)
            for many in range(5):
                for row in itertools.combinations(sights, many):
                    wanted = is_round_said(size, bills, row)
                    self.check(column.is_round(size, bills, sights, row), wanted)
                    found[wanted] += 1
        self.assertGreater(min(found), 20)

    def test_some_round_against_all_rows(self):
        found = [0, 0]
        for size, bills in list(small_columns(25, 300, 4, (3, 7))) + list(small_columns(26, 24, 5, (5, 6))):
            rounds = rounds_said(size, bills, every_sight(size, bills))
            row = column.some_round(size, bills)
            self.assertTrue(row in rounds if rounds else row is None, (size, bills))
            found[bool(rounds)] += 1
        self.assertGreater(min(found), 10)

    def test_bills_that_begin_together(self):
        for bills in ((("a", 0, 2), ("b", 0, 4), ("c", 3, 6), ("d", 5, 1)),
                      (("a", 0, 3), ("b", 0, 1), ("c", 2, 5), ("d", 4, 0))):
            every = tuple(every_sight(7, bills))
            self.check(column.is_round(7, bills, every, column.some_round(7, bills)), True)
            self.check(column.is_round(7, bills, every, column.a_round(7, bills, every)), True)

    def test_bills_that_do_not_go_over_the_end(self):
        chance = random.Random(27)
        for at in range(120):
            fence = small_fence(chance, "abcd"[:at % 5])
            every = every_sight(7, fence)
            sights = tuple(sorted(chance.sample(every, min(len(every), chance.randint(0, 5)))))
            self.check(column.some_round(7, fence), None)
            self.check(column.clashing_sights(7, fence, sights), pairs.clashes(fence, sights))
            self.check(column.can_hold_round(7, fence, sights), pairs.hold_together(fence, sights))
            if pairs.hold_together(fence, sights):
                below = pairs.surely_below(fence, sights)
                self.check(column.surely_above(7, fence, sights), tuple(sorted([pair[::-1] for pair in below])))
                for cell in range(7):
                    seen = pairs.seen_there(fence, sights, cell)
                    self.check(column.round_answers(7, fence, sights, cell), seen or ("-",))


class Bounds(Case):
    def wheel(self, many, size):
        """So many BILLs round the COLUMN, each one over the CELL that the next one begins in."""
        step = size // many
        return tuple([("abcdefghij"[at], at * step, (at + 1) % many * step) for at in range(many)])

    def test_a_round_of_ten(self):
        for size in (20, FAR):
            bills = self.wheel(10, size)
            step = size // 10
            row = tuple(sorted([((at + 1) % 10 * step, bills[at][0]) for at in range(10)]))
            more = tuple([(at * step + 1, bills[at][0]) for at in range(10)] + [(at * step + 1 + step // 3,
                                                                                 bills[at][0]) for at in range(10)])
            sights = tuple(sorted(set(row + more)))
            self.check(column.a_round(size, bills, sights), row)
            self.check(column.is_round(size, bills, sights, row), True)
            self.check(column.can_hold_round(size, bills, sights), False)
            less = tuple([sight for sight in sights if sight != row[4]])
            self.check(column.a_round(size, bills, less), None)
            self.check(column.can_hold_round(size, bills, less), True)
            self.check(len(column.surely_above(size, bills, less)), 45)
            self.check(column.how_many_round_stacks(size, bills), 2 ** 10 - 2)

    def test_ten_over_all(self):
        bills = tuple([(sign, at, (at - 1) % FAR) for at, sign in enumerate("abcdefghij")])
        self.check(column.how_many_round_stacks(FAR, bills), 3628800)
        self.check(column.some_round(FAR, bills[:7]), None)
        sights = tuple([(cell, "a") for cell in range(0, 30)])
        self.check(column.a_round(FAR, bills, sights), None)
        self.check(column.surely_above(FAR, bills, sights), tuple([("a", sign) for sign in "bcdefghij"]))
        self.check(column.round_answers(FAR, bills, sights, FAR - 1), ("a",))
        crowd = tuple([(cell, sign) for cell in range(3) for sign in "abcdefghij"])
        self.check(column.a_round(FAR, bills, crowd), None)
        self.check(len(column.clashing_sights(FAR, bills, crowd)), 9 * 10 // 2 * 9)

    def test_some_round_of_seven(self):
        for many in range(3, 8):
            bills = self.wheel(many, FAR)
            row = column.some_round(FAR, bills)
            self.check(len(row), many)
            self.check(column.is_round(FAR, bills, row, row), True)
        self.check(column.some_round(FAR, self.wheel(7, FAR)[:6]), None)


if __name__ == "__main__":
    unittest.main()
