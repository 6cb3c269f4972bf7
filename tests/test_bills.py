"""The functions over FENCEs: ordinary inputs, edges and wrong inputs."""

import itertools
import unittest

from lastpasted import bills
from tests.support import Case

FAR = 10 ** 40
PLANK = (("a", 1, 6), ("b", 4, 9), ("c", 2, 5), ("d", 12, 12))
ONE = (("dot", -3, -3),)
TOUCH = (("x", 1, 2), ("y", 3, 4))
WIDE = (("all", -FAR, FAR), ("left", -FAR, -FAR), ("mid", -1, 0), ("right", FAR, FAR))
TWELVE = tuple([(sign, 3 * at, 3 * at + at) for at, sign in enumerate("abcdefghijkl")])


class Looking(Case):
    def test_names(self):
        self.check_all_ways(bills.names, ("a", "b", "c", "d"), fence=PLANK)
        self.check_all_ways(bills.names, (), fence=())
        self.check_all_ways(bills.names, tuple("abcdefghijkl"), fence=TWELVE)

    def test_bill_of(self):
        self.check_all_ways(bills.bill_of, ("c", 2, 5), fence=PLANK, name="c")
        self.check_all_ways(bills.bill_of, ("dot", -3, -3), fence=ONE, name="dot")
        self.check_all_ways(bills.bill_of, ("right", FAR, FAR), fence=WIDE, name="right")

    def test_bill_of_nobody(self):
        self.refused_all_ways("NoName", {"name": "e"}, bills.bill_of, fence=PLANK, name="e")
        self.refused_all_ways("NoName", {"name": "a"}, bills.bill_of, fence=(), name="a")
        self.refused_all_ways("NoName", {"name": "do"}, bills.bill_of, fence=ONE, name="do")

    def test_over(self):
        self.check_all_ways(bills.over, ("a", "b", "c"), fence=PLANK, cell=4)
        for cell, wanted in ((0, ""), (1, "a"), (2, "ac"), (5, "abc"), (6, "ab"), (7, "b"), (9, "b"),
                             (10, ""), (11, ""), (12, "d"), (13, ""), (-FAR, ""), (FAR, "")):
            self.check(bills.over(PLANK, cell), tuple(wanted))
        self.check_all_ways(bills.over, (), fence=(), cell=0)
        self.check_all_ways(bills.over, ("all", "left"), fence=WIDE, cell=-FAR)
        self.check_all_ways(bills.over, ("all", "right"), fence=WIDE, cell=FAR)

    def test_lies_over(self):
        for cell, wanted in ((3, False), (4, True), (6, True), (9, True), (10, False), (-FAR, False)):
            self.check_all_ways(bills.lies_over, wanted, fence=PLANK, name="b", cell=cell)
        self.check_all_ways(bills.lies_over, True, fence=WIDE, name="all", cell=FAR)
        self.check_all_ways(bills.lies_over, True, fence=WIDE, name="all", cell=12345)

    def test_lies_over_nobody(self):
        self.refused_all_ways("NoName", {"name": "z"}, bills.lies_over, fence=PLANK, name="z", cell=4)
        self.refused_all_ways("NoName", {"name": "z"}, bills.lies_over, fence=(), name="z", cell=4)


class Meeting(Case):
    def test_shared(self):
        self.check_all_ways(bills.shared, (4, 6), fence=PLANK, one="a", other="b")
        self.check_all_ways(bills.shared, (4, 6), fence=PLANK, one="b", other="a")
        self.check_all_ways(bills.shared, (2, 5), fence=PLANK, one="a", other="c")
        self.check_all_ways(bills.shared, None, fence=PLANK, one="a", other="d")
        self.check_all_ways(bills.shared, (FAR, FAR), fence=WIDE, one="right", other="all")

    def test_shared_by_one_cell(self):
        self.check(bills.shared((("a", 1, 4), ("b", 4, 9)), "a", "b"), (4, 4))
        self.check(bills.shared((("a", 4, 9), ("b", 1, 4)), "a", "b"), (4, 4))

    def test_the_same_name_twice(self):
        self.check_all_ways(bills.shared, (4, 9), fence=PLANK, one="b", other="b")
        self.check_all_ways(bills.meet, True, fence=PLANK, one="b", other="b")
        self.check_all_ways(bills.shared, (-3, -3), fence=ONE, one="dot", other="dot")

    def test_touching_is_not_meeting(self):
        self.check_all_ways(bills.shared, None, fence=TOUCH, one="x", other="y")
        self.check_all_ways(bills.meet, False, fence=TOUCH, one="x", other="y")
        self.check_all_ways(bills.meeting, (), fence=TOUCH)

    def test_meet(self):
        self.check_all_ways(bills.meet, True, fence=PLANK, one="b", other="c")
        self.check_all_ways(bills.meet, True, fence=PLANK, one="c", other="b")
        self.check_all_ways(bills.meet, False, fence=PLANK, one="d", other="b")
        self.check_all_ways(bills.meet, False, fence=WIDE, one="left", other="right")

    def test_nobody_meets(self):
        for call in (bills.shared, bills.meet):
            self.refused_all_ways("NoName", {"name": "z"}, call, fence=PLANK, one="z", other="q")
            self.refused_all_ways("NoName", {"name": "q"}, call, fence=PLANK, one="q", other="z")
            self.refused_all_ways("NoName", {"name": "q"}, call, fence=PLANK, one="a", other="q")
            self.refused_all_ways("NoName", {"name": "q"}, call, fence=PLANK, one="q", other="a")
            self.refused_all_ways("NoName", {"name": "q"}, call, fence=PLANK, one="q", other="q")

    def test_meeting(self):
        self.check_all_ways(bills.meeting, (("a", "b"), ("a", "c"), ("b", "c")), fence=PLANK)
        self.check_all_ways(bills.meeting, (), fence=())
        self.check_all_ways(bills.meeting, (), fence=ONE)
        self.check_all_ways(bills.meeting, (("all", "left"), ("all", "mid"), ("all", "right")), fence=WIDE)


class Pieces(Case):
    def test_pieces(self):
        wanted = ((1, 1), (2, 3), (4, 5), (6, 6), (7, 9), (12, 12))
        self.check_all_ways(bills.pieces, wanted, fence=PLANK)
        self.check_all_ways(bills.pieces, (), fence=())
        self.check_all_ways(bills.pieces, ((-3, -3),), fence=ONE)
        self.check_all_ways(bills.pieces, ((1, 2), (3, 4)), fence=TOUCH)

    def test_great_pieces(self):
        wanted = ((-FAR, -FAR), (1 - FAR, -2), (-1, 0), (1, FAR - 1), (FAR, FAR))
        self.check_all_ways(bills.pieces, wanted, fence=WIDE)
        self.check_all_ways(bills.gaps, (), fence=WIDE)

    def test_equal_bills_cut_once(self):
        self.check(bills.pieces((("a", 1, 4), ("b", 1, 4), ("c", 1, 4))), ((1, 4),))

    def test_gaps(self):
        self.check_all_ways(bills.gaps, ((10, 11),), fence=PLANK)
        self.check_all_ways(bills.gaps, (), fence=())
        self.check_all_ways(bills.gaps, (), fence=ONE)
        self.check_all_ways(bills.gaps, (), fence=TOUCH)

    def test_several_gaps(self):
        fence = (("a", 5, 5), ("b", -FAR, -7), ("c", 7, 7), ("d", 6, 6), ("e", 9, FAR))
        self.check_all_ways(bills.gaps, ((-6, 4), (8, 8)), fence=fence)
        self.check_all_ways(bills.pieces, ((-FAR, -7), (5, 5), (6, 6), (7, 7), (9, FAR)), fence=fence)

    def test_piece_of(self):
        for cell, wanted in ((0, None), (1, (1, 1)), (2, (2, 3)), (3, (2, 3)), (4, (4, 5)), (6, (6, 6)),
                             (7, (7, 9)), (8, (7, 9)), (9, (7, 9)), (10, None), (11, None), (12, (12, 12)),
                             (13, None), (-FAR, None), (FAR, None)):
            self.check_all_ways(bills.piece_of, wanted, fence=PLANK, cell=cell)
        self.check_all_ways(bills.piece_of, None, fence=(), cell=0)
        self.check_all_ways(bills.piece_of, (1, FAR - 1), fence=WIDE, cell=10 ** 39)

    def test_over_pieces(self):
        wanted = (("a",), ("a", "c"), ("a", "b", "c"), ("a", "b"), ("b",), ("d",))
        self.check_all_ways(bills.over_pieces, wanted, fence=PLANK)
        self.check_all_ways(bills.over_pieces, (), fence=())
        self.check_all_ways(bills.over_pieces, (("x",), ("y",)), fence=TOUCH)


class Changing(Case):
    def test_moved(self):
        wanted = (("a", 0, 5), ("b", 3, 8), ("c", 1, 4), ("d", 11, 11))
        self.check_all_ways(bills.moved, wanted, fence=PLANK, number=-1)
        self.check_all_ways(bills.moved, PLANK, fence=PLANK, number=0)
        self.check_all_ways(bills.moved, (), fence=(), number=5)
        self.check_all_ways(bills.moved, (("dot", FAR - 3, FAR - 3),), fence=ONE, number=FAR)
        self.check(bills.moved(WIDE, FAR)[0], ("all", 0, 2 * FAR))

    def test_turned_about(self):
        wanted = (("a", -6, -1), ("b", -9, -4), ("c", -5, -2), ("d", -12, -12))
        self.check_all_ways(bills.turned_about, wanted, fence=PLANK)
        self.check_all_ways(bills.turned_about, (), fence=())
        self.check(bills.turned_about(WIDE)[1:3], (("left", FAR, FAR), ("mid", 0, 1)))

    def test_cut_to(self):
        self.check_all_ways(bills.cut_to, (("a", 5, 6), ("b", 5, 8), ("c", 5, 5)), fence=PLANK, first=5, last=8)
        self.check_all_ways(bills.cut_to, PLANK, fence=PLANK, first=1, last=12)
        self.check_all_ways(bills.cut_to, (), fence=PLANK, first=10, last=11)
        self.check_all_ways(bills.cut_to, (), fence=(), first=-FAR, last=FAR)

    def test_cut_to_the_edges(self):
        self.check_all_ways(bills.cut_to, (("a", 6, 6), ("b", 6, 6)), fence=PLANK, first=6, last=6)
        self.check_all_ways(bills.cut_to, (("a", 1, 1),), fence=PLANK, first=-FAR, last=1)
        self.check_all_ways(bills.cut_to, (("d", 12, 12),), fence=PLANK, first=12, last=FAR)
        self.check_all_ways(bills.cut_to, (("all", -5, -1), ("mid", -1, -1)), fence=WIDE, first=-5, last=-1)

    def test_without(self):
        self.check_all_ways(bills.without, (("b", 4, 9), ("c", 2, 5)), fence=PLANK, some=("a", "d"))
        self.check_all_ways(bills.without, PLANK, fence=PLANK, some=())
        self.check_all_ways(bills.without, (), fence=PLANK, some=("a", "b", "c", "d"))
        self.check_all_ways(bills.without, (), fence=(), some=())

    def test_without_nobody(self):
        self.refused_all_ways("NoName", {"name": "q"}, bills.without, fence=PLANK, some=("a", "q", "z"))
        self.refused_all_ways("NoName", {"name": "aa"}, bills.without, fence=PLANK, some=("aa", "b"))
        self.refused_all_ways("NoName", {"name": "a"}, bills.without, fence=(), some=("a",))

    def test_with_bill(self):
        self.check_all_ways(bills.with_bill, (("a", 3, 4), ("b", 0, 0)), fence=(("b", 0, 0),), bill=("a", 3, 4))
        self.check_all_ways(bills.with_bill, (("a", 3, 4),), fence=(), bill=("a", 3, 4))
        wanted = PLANK[:2] + (("bb", -FAR, FAR),) + PLANK[2:]
        self.check_all_ways(bills.with_bill, wanted, fence=PLANK, bill=("bb", -FAR, FAR))
        self.check_all_ways(bills.with_bill, PLANK + (("e", 1, 6),), fence=PLANK, bill=("e", 1, 6))

    def test_with_bill_twice(self):
        self.refused_all_ways("Twice", {"name": "c"}, bills.with_bill, fence=PLANK, bill=("c", 0, 0))
        self.refused_all_ways("Twice", {"name": "c"}, bills.with_bill, fence=PLANK, bill=("c", 2, 5))


class Renaming(Case):
    def test_renamed(self):
        wanted = (("a", 4, 9), ("b", 1, 6))
        self.check_all_ways(bills.renamed, wanted, fence=PLANK[:2], pairs=(("a", "b"), ("b", "a")))
        self.check_all_ways(bills.renamed, PLANK, fence=PLANK, pairs=())
        self.check_all_ways(bills.renamed, PLANK, fence=PLANK, pairs=(("c", "c"),))
        self.check_all_ways(bills.renamed, (), fence=(), pairs=())

    def test_renamed_is_sorted(self):
        wanted = (("b", 4, 9), ("c", 2, 5), ("d", 12, 12), ("z", 1, 6))
        self.check_all_ways(bills.renamed, wanted, fence=PLANK, pairs=(("a", "z"),))

    def test_renamed_round(self):
        wanted = (("a", 2, 5), ("b", 1, 6), ("c", 4, 9), ("d", 12, 12))
        for pairs in itertools.permutations((("a", "b"), ("b", "c"), ("c", "a"))):
            self.check_all_ways(bills.renamed, wanted, fence=PLANK, pairs=pairs)

    def test_renamed_nobody(self):
        pairs = (("a", "e"), ("z", "a"), ("q", "b"))
        self.refused_all_ways("NoName", {"name": "z"}, bills.renamed, fence=PLANK, pairs=pairs)
        self.refused_all_ways("NoName", {"name": "q"}, bills.renamed, fence=PLANK, pairs=(("q", "q"), ("p", "p")))
        self.refused_all_ways("NoName", {"name": "a"}, bills.renamed, fence=(), pairs=(("a", "b"),))

    def test_nobody_comes_ahead_of_twice(self):
        self.refused_all_ways("NoName", {"name": "z"}, bills.renamed, fence=PLANK, pairs=(("a", "b"), ("z", "e")))

    def test_renamed_twice(self):
        self.refused_all_ways("Twice", {"name": "b"}, bills.renamed, fence=PLANK, pairs=(("a", "b"),))
        self.refused_all_ways("Twice", {"name": "m"}, bills.renamed, fence=PLANK, pairs=(("d", "m"), ("a", "m")))
        self.refused_all_ways("Twice", {"name": "a"}, bills.renamed, fence=PLANK, pairs=(("c", "a"), ("a", "a")))

    def test_renamed_twice_tells_the_least(self):
        pairs = (("a", "y"), ("b", "y"), ("c", "x"), ("d", "x"))
        self.refused_all_ways("Twice", {"name": "x"}, bills.renamed, fence=PLANK, pairs=pairs)
        self.refused_all_ways("Twice", {"name": "c"}, bills.renamed, fence=PLANK, pairs=(("a", "d"), ("b", "c")))

    def test_a_name_that_is_given_away_is_free(self):
        wanted = (("b", 1, 6), ("c", 2, 5), ("d", 12, 12), ("e", 4, 9))
        self.check_all_ways(bills.renamed, wanted, fence=PLANK, pairs=(("a", "b"), ("b", "e")))


def small_fences():
    """All FENCEs of at most three BILLs over five CELLs."""
    stretches = [(first, last) for first in range(-2, 3) for last in range(first, 3)]
    for many in range(4):
        for chosen in itertools.product(stretches, repeat=many):
            yield tuple([(name, first, last) for name, (first, last) in zip("abc", chosen)])


def lying(fence, cell):
    return tuple([name for name, first, last in fence if cell in range(first, last + 1)])


def walked(fence):
    """PIECES and gaps, found by walking from CELL to CELL."""
    runs = []
    if fence:
        for cell in range(min(bill[1] for bill in fence), max(bill[2] for bill in fence) + 1):
            begins = any(bill[1] == cell or bill[2] + 1 == cell for bill in fence)
            if begins:
                runs.append([cell])
            else:
                runs[-1].append(cell)
    found = [(run[0], run[-1]) for run in runs]
    covered = [stretch for stretch in found if lying(fence, stretch[0])]
    return tuple(covered), tuple([stretch for stretch in found if stretch not in covered])


class AllSmallFences(Case):
    def test_against_walking(self):
        for fence in small_fences():
            self.assertTrue(bills.is_fence(fence))
            pieces, gaps = walked(fence)
            self.check(bills.pieces(fence), pieces)
            self.check(bills.gaps(fence), gaps)
            self.check(bills.over_pieces(fence), tuple([lying(fence, piece[0]) for piece in pieces]))
            for cell in range(-3, 4):
                self.check(bills.over(fence, cell), lying(fence, cell))
                around = [piece for piece in pieces if piece[0] <= cell <= piece[1]]
                self.check(bills.piece_of(fence, cell), around[0] if around else None)

    def test_meeting_against_walking(self):
        for fence in small_fences():
            found = []
            for one, other in itertools.product(bills.names(fence), repeat=2):
                both = [cell for cell in range(-3, 4) if {one, other} <= set(lying(fence, cell))]
                self.check(bills.shared(fence, one, other), (both[0], both[-1]) if both else None)
                self.check(bills.meet(fence, one, other), bool(both))
                if both and one < other:
                    found.append((one, other))
            self.check(bills.meeting(fence), tuple(found))

    def test_cutting_against_walking(self):
        for fence in small_fences():
            for first, last in ((-2, 2), (-1, 0), (0, 0), (1, 5), (3, 4)):
                cut = bills.cut_to(fence, first, last)
                self.assertTrue(bills.is_fence(cut))
                for cell in range(-3, 6):
                    wanted = lying(fence, cell) if first <= cell <= last else ()
                    self.check(lying(cut, cell), wanted)


if __name__ == "__main__":
    unittest.main()
