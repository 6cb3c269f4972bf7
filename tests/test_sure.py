"""What is sure: against all HISTORYs that fit, edges, and the order of the errors."""

import itertools
import unittest

from lastpasted import bills, cases, latest, sure
from tests.support import FAR, Case, great_case, histories, small_cases

FENCE = (("a", 1, 6), ("b", 4, 9), ("c", 2, 5))
TWO = (FENCE, 2, ((0, 4, "a"), (1, 4, "c")), ())
JUMP = (FENCE, 2, ((1, 5, "a"),), (("there", 0, "a"),))
ONE = (FENCE, 1, ((0, 3, "c"), (0, 5, "a")), ())
CHAIN = (FENCE, 0, (), (("before", "a", "b"), ("before", "b", "c")))
ROUND = (FENCE, 0, (), (("before", "a", "b"), ("before", "b", "a")))
NOTHING = ((), 0, (), ())
EMPTY = ((), 1, ((0, 3, "-"),), ())
LONE = ((("a", 0, 0),), 1, (), (("not", 0, "a"), ("there", 0, "a")))
APART = ((("a", 0, 3), ("b", 2, 5), ("z", 9, 9)), 1, ((0, 2, "a"), (0, 8, "-")), ())


class There(Case):
    def test_surely_there(self):
        for case, photo, wanted in ((TWO, 0, ("a",)), (TWO, 1, ("a", "c")), (JUMP, 0, ("a",)), (JUMP, 1, ("a",)),
                                    (EMPTY, 0, ()), (APART, 0, ("a",))):
            self.check_all_ways(sure.surely_there, wanted, case=case, photo=photo)

    def test_surely_not(self):
        for case, photo, wanted in ((TWO, 0, ("c",)), (TWO, 1, ()), (JUMP, 0, ()), (EMPTY, 0, ()), (APART, 0, ()),
                                    ((FENCE, 2, ((1, 8, "-"),), ()), 0, ("b",)),
                                    ((FENCE, 2, ((0, 4, "-"),), ()), 0, ("a", "b", "c")),
                                    ((FENCE, 1, (), (("before", "b", "c"), ("not", 0, "b"))), 0, ("b", "c"))):
            self.check_all_ways(sure.surely_not, wanted, case=case, photo=photo)

    def test_slots(self):
        for case, name, wanted in ((TWO, "a", (0,)), (TWO, "b", (0, 1, 2)), (TWO, "c", (1,)), (JUMP, "b", (0, 2)),
                                   (JUMP, "a", (0,)), (CHAIN, "a", (0,)), (APART, "z", (0, 1)),
                                   ((FENCE, 3, (), (("not", 0, "b"), ("there", 2, "b"))), "b", (1, 2)),
                                   ((FENCE, 3, (), (("not", 2, "b"),)), "b", (3,))):
            self.check_all_ways(sure.slots, wanted, case=case, name=name)


class Before(Case):
    def test_surely_before(self):
        for case, one, other, wanted in ((TWO, "a", "c", True), (TWO, "c", "a", False), (TWO, "b", "c", False),
                                         (TWO, "c", "b", False), (CHAIN, "a", "c", True), (CHAIN, "c", "a", False),
                                         (APART, "a", "b", False), (APART, "a", "z", False)):
            self.check_all_ways(sure.surely_before, wanted, case=case, one=one, other=other)

    def test_sure_order(self):
        for case, wanted in ((TWO, (("a", "c"),)), (CHAIN, (("a", "b"), ("a", "c"), ("b", "c"))), (NOTHING, ()),
                             (APART, ()), (EMPTY, ()), ((FENCE, 1, ((0, 5, "b"),), ()), ()),
                             ((FENCE, 1, ((0, 5, "b"),), (("there", 0, "c"),)), (("c", "b"),))):
            self.check_all_ways(sure.sure_order, wanted, case=case)


class Answers(Case):
    def test_answers(self):
        for case, photo, cell, wanted in ((TWO, 1, 4, ("c",)), (TWO, 1, 6, ("a", "b")), (TWO, 0, 8, ("-", "b")),
                                          (TWO, 0, 99, ("-",)), (TWO, 0, 4, ("a",)), (TWO, 1, -FAR, ("-",)),
                                          (EMPTY, 0, 3, ("-",)), (EMPTY, 0, FAR, ("-",)), (APART, 0, 9, ("-", "z")),
                                          ((FENCE, 1, (), ()), 0, 5, ("-", "a", "b", "c"))):
            self.check_all_ways(sure.answers, wanted, case=case, photo=photo, cell=cell)
            only = wanted[0] if len(wanted) == 1 else None
            self.check_all_ways(sure.sure_answer, only, case=case, photo=photo, cell=cell)

    def test_sure_look(self):
        for case, photo, wanted in ((TWO, 0, ("a", "a", "a", "a", None)), (TWO, 1, ("a", "c", "c", None, None)),
                                    (JUMP, 1, ("a", "a", "a", "a", None)), (EMPTY, 0, ()),
                                    (APART, 0, ("a", "a", None, None)),
                                    ((FENCE, 1, ((0, 4, "-"),), ()), 0, ("-", "-", "-", "-", "-"))):
            self.check_all_ways(sure.sure_look, wanted, case=case, photo=photo)


class Refused(Case):
    def test_no_name_comes_first(self):
        for case in (TWO, ONE, ROUND, NOTHING, EMPTY):
            self.refused_all_ways("NoName", {"name": "d"}, sure.slots, case=case, name="d")
            self.refused_all_ways("NoName", {"name": "q"}, sure.surely_before, case=case, one="q", other="p")
            self.refused_all_ways("NoName", {"name": "p"}, sure.surely_before, case=case, one="p", other="q")
        for case in (TWO, ONE, ROUND):
            self.refused_all_ways("NoName", {"name": "q"}, sure.surely_before, case=case, one="a", other="q")
            self.refused_all_ways("NoName", {"name": "q"}, sure.surely_before, case=case, one="q", other="a")

    def test_no_photo_comes_before_no_history(self):
        for case, photo in ((TWO, 2), (TWO, -1), (ONE, 1), (ONE, FAR), (ROUND, 0), (NOTHING, 0), (EMPTY, 1)):
            for call in (sure.surely_there, sure.surely_not, sure.sure_look):
                self.refused_all_ways("NoPhoto", {"photo": photo}, call, case=case, photo=photo)
            for call in (sure.answers, sure.sure_answer):
                for cell in (5, 99):
                    self.refused_all_ways("NoPhoto", {"photo": photo}, call, case=case, photo=photo, cell=cell)

    def test_no_history(self):
        for call in (sure.surely_there, sure.surely_not, sure.sure_look):
            self.refused_all_ways("NoHistory", {}, call, case=ONE, photo=0)
            self.refused_all_ways("NoHistory", {}, call, case=LONE, photo=0)
        for call in (sure.answers, sure.sure_answer):
            for cell in (3, 5, 99):
                self.refused_all_ways("NoHistory", {}, call, case=ONE, photo=0, cell=cell)
        for case in (ONE, ROUND):
            self.refused_all_ways("NoHistory", {}, sure.slots, case=case, name="a")
            self.refused_all_ways("NoHistory", {}, sure.surely_before, case=case, one="a", other="b")
            self.refused_all_ways("NoHistory", {}, sure.sure_order, case=case)

    def test_no_history_also_where_there_is_no_pair(self):
        self.refused_all_ways("NoHistory", {}, sure.sure_order, case=LONE)
        self.refused_all_ways("NoHistory", {}, sure.slots, case=LONE, name="a")
        self.refused_all_ways("NoHistory", {}, sure.sure_answer, case=LONE, photo=0, cell=5)


class AllSmallHistories(Case):
    def test_against_all_histories(self):
        checked = 0
        for case in small_cases(8, 500):
            known = [bill[0] for bill in case[0]]
            kept = [history for history in histories(known, case[1]) if cases.fits(case, history)]
            if kept:
                self.check_names(case, known, kept)
                for photo in range(case[1]):
                    self.check_photo(case, known, kept, photo)
                checked += 1
        self.assertGreater(checked, 300)

    def check_names(self, case, known, kept):
        for name in known:
            found = sorted({cases.slot_of(history, name) for history in kept})
            self.check(sure.slots(case, name), tuple(found))
        ahead = [(one, other) for one, other in itertools.permutations(known, 2)
                 if all(history.index(one) < history.index(other) for history in kept)]
        self.check(sure.sure_order(case), tuple(ahead))
        for pair in itertools.permutations(known, 2):
            self.check(sure.surely_before(case, *pair), pair in ahead)

    def check_photo(self, case, known, kept, photo):
        there = [{name for name in known if history.index(name) < history.index(photo)} for history in kept]
        self.check(sure.surely_there(case, photo), tuple([name for name in known if all(name in row for row in there)]))
        self.check(sure.surely_not(case, photo),
                   tuple([name for name in known if not any(name in row for row in there)]))
        for cell in range(-1, 8):
            found = tuple(sorted({cases.seen_at(case[0], history, photo, cell) for history in kept}))
            self.check(sure.answers(case, photo, cell), found)
            self.check(sure.sure_answer(case, photo, cell), found[0] if len(found) == 1 else None)
        looks = [cases.seen_on(case[0], history, photo) for history in kept]
        wanted = [seen[0] if len(set(seen)) == 1 else None for seen in zip(*looks)]
        self.check(sure.sure_look(case, photo), tuple(wanted))

    def test_slots_that_do_not_stand_side_by_side(self):
        found = 0
        for case in small_cases(9, 900):
            if latest.can_fit(case):
                for name in bills.names(case[0]):
                    row = sure.slots(case, name)
                    found += len(row) > 1 and row[-1] - row[0] >= len(row)
        self.assertGreater(found, 2)

    def test_at_the_bounds(self):
        case, history = great_case()
        order = sure.sure_order(case)
        self.assertTrue(order)
        for one, other in order:
            self.assertLess(history.index(one), history.index(other))
        for name in bills.names(case[0]):
            self.assertIn(cases.slot_of(history, name), sure.slots(case, name))
        for photo in range(8):
            there = cases.there_at(history, photo)
            self.assertLessEqual(set(sure.surely_there(case, photo)), set(there))
            self.assertFalse(set(sure.surely_not(case, photo)) & set(there))
            for only, seen in zip(sure.sure_look(case, photo), cases.seen_on(case[0], history, photo)):
                self.assertIn(only, (None, seen))
        for photo, cell, seen in case[2]:
            self.check(sure.sure_answer(case, photo, cell), seen)


if __name__ == "__main__":
    unittest.main()
