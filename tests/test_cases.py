"""The functions over HISTORYs and CASEs: ordinary inputs, edges and wrong inputs."""

import itertools
import unittest

from lastpasted import cases
from tests.support import FAR, Case, histories

TIMBER = (("a", 1, 6), ("b", 4, 9), ("c", 2, 5))
ROW = ("b", 0, "c", "a", 1)
TALE = (TIMBER, 2, ((0, 5, "b"), (1, 3, "a"), (1, 8, "b")), (("before", "b", "c"), ("not", 0, "a")))
BARE = (TIMBER, 0, (), ())
NOTHING = ((), 0, (), ())
WIDE = (("all", -FAR, FAR), ("mid", 0, 0))
GAPPED = (("p", -9, -7), ("q", 3, 3))


class Histories(Case):
    def test_there_at(self):
        self.check_all_ways(cases.there_at, ("b",), history=ROW, photo=0)
        self.check_all_ways(cases.there_at, ("a", "b", "c"), history=ROW, photo=1)
        self.check_all_ways(cases.there_at, (), history=(0, "a"), photo=0)
        self.check_all_ways(cases.there_at, (), history=(0, 1, 2), photo=2)

    def test_there_at_leaves_out_what_comes_later(self):
        history = ("d", "b", 0, "c", 1, 2, "a")
        self.check(cases.there_at(history, 0), ("b", "d"))
        self.check(cases.there_at(history, 1), ("b", "c", "d"))
        self.check(cases.there_at(history, 2), ("b", "c", "d"))

    def test_there_at_no_photo(self):
        for history, photo in ((ROW, 2), (ROW, -1), (ROW, FAR), ((), 0), (("a", "b"), 0)):
            self.refused_all_ways("NoPhoto", {"photo": photo}, cases.there_at, history=history, photo=photo)

    def test_slot_of(self):
        for name, wanted in (("b", 0), ("c", 1), ("a", 1)):
            self.check_all_ways(cases.slot_of, wanted, history=ROW, name=name)
        self.check_all_ways(cases.slot_of, 0, history=("x",), name="x")
        self.check_all_ways(cases.slot_of, 3, history=(0, 1, 2, "x"), name="x")
        self.check_all_ways(cases.slot_of, 2, history=(0, 1, "x", 2), name="x")

    def test_slot_of_nobody(self):
        for history, name in ((ROW, "d"), (ROW, "ab"), ((), "a"), ((0, 1), "a")):
            self.refused_all_ways("NoName", {"name": name}, cases.slot_of, history=history, name=name)

    def test_seen_at(self):
        for photo, cell, wanted in ((0, 5, "b"), (0, 2, "-"), (1, 5, "a"), (1, 9, "b"), (1, 1, "a"), (1, 0, "-"),
                                    (1, 10, "-"), (0, 4, "b"), (0, 3, "-"), (1, -FAR, "-"), (1, FAR, "-")):
            self.check_all_ways(cases.seen_at, wanted, fence=TIMBER, history=ROW, photo=photo, cell=cell)
        self.check_all_ways(cases.seen_at, "-", fence=(), history=(0,), photo=0, cell=0)

    def test_seen_at_on_a_great_bill(self):
        for cell, wanted in ((-FAR, "all"), (10 ** 39, "all"), (0, "mid"), (FAR + 1, "-")):
            self.check(cases.seen_at(WIDE, ("all", "mid", 0), 0, cell), wanted)
            self.check(cases.seen_at(WIDE, ("mid", "all", 0), 0, cell), "-" if cell > FAR else "all")

    def test_seen_at_no_photo(self):
        for fence, history, photo in ((TIMBER, ROW, 2), (TIMBER, ROW, -1), (TIMBER, ("a", "b", "c"), 0), ((), (), 0)):
            self.refused_all_ways("NoPhoto", {"photo": photo}, cases.seen_at,
                                  fence=fence, history=history, photo=photo, cell=5)

    def test_seen_on(self):
        self.check_all_ways(cases.seen_on, ("-", "-", "b", "b", "b"), fence=TIMBER, history=ROW, photo=0)
        self.check_all_ways(cases.seen_on, ("a", "a", "a", "a", "b"), fence=TIMBER, history=ROW, photo=1)
        self.check_all_ways(cases.seen_on, ("a", "c", "c", "b", "b"), fence=TIMBER, history=("a", "b", "c", 0), photo=0)
        self.check_all_ways(cases.seen_on, (), fence=(), history=(0, 1), photo=1)
        self.check_all_ways(cases.seen_on, ("-", "q"), fence=GAPPED, history=("q", 0, "p"), photo=0)
        self.check_all_ways(cases.seen_on, ("all", "mid", "all"), fence=WIDE, history=("all", "mid", 0), photo=0)

    def test_seen_on_no_photo(self):
        for fence, history, photo in ((TIMBER, ROW, 2), (TIMBER, ROW, -1), ((), (0,), 1), ((), (), 0)):
            self.refused_all_ways("NoPhoto", {"photo": photo}, cases.seen_on,
                                  fence=fence, history=history, photo=photo)


class Fitting(Case):
    def test_fits(self):
        self.check_all_ways(cases.fits, True, case=TALE, history=ROW)
        self.check_all_ways(cases.fits, False, case=TALE, history=("b", "c", 0, "a", 1))
        self.check_all_ways(cases.fits, True, case=BARE, history=("c", "b", "a"))
        self.check_all_ways(cases.fits, True, case=NOTHING, history=())
        self.check_all_ways(cases.fits, True, case=((), 2, ((0, 3, "-"),), ()), history=(0, 1))

    def test_wrong_in(self):
        self.check_all_ways(cases.wrong_in, ((), ()), case=TALE, history=ROW)
        self.check_all_ways(cases.wrong_in, (((0, 5, "b"),), ()), case=TALE, history=("b", "c", 0, "a", 1))
        wanted = (((0, 5, "b"), (1, 3, "a")), (("before", "b", "c"), ("not", 0, "a")))
        self.check_all_ways(cases.wrong_in, wanted, case=TALE, history=("a", "c", 0, "b", 1))
        self.check_all_ways(cases.wrong_in, ((), ()), case=NOTHING, history=())

    def test_one_wrong_fact_is_enough(self):
        for fact, wanted in ((("before", "a", "b"), True), (("before", "b", "a"), False), (("there", 0, "a"), True),
                             (("there", 0, "b"), False), (("not", 0, "a"), False), (("not", 0, "b"), True),
                             (("there", 1, "b"), True), (("there", 1, "c"), False), (("not", 1, "c"), True),
                             (("before", "b", "c"), True), (("before", "c", "a"), False)):
            case = (TIMBER, 2, (), (fact,))
            history = ("a", 0, "b", 1, "c")
            self.check_all_ways(cases.fits, wanted, case=case, history=history)
            self.check_all_ways(cases.wrong_in, ((), () if wanted else (fact,)), case=case, history=history)

    def test_one_wrong_telling_is_enough(self):
        for telling, wanted in (((0, 2, "a"), True), ((0, 2, "-"), False), ((0, 9, "-"), True), ((0, 9, "b"), False),
                                ((1, 4, "b"), True), ((1, 4, "a"), False), ((1, 3, "c"), False), ((1, 99, "-"), True)):
            case = (TIMBER, 2, (telling,), ())
            history = ("a", 0, "b", 1, "c")
            self.check_all_ways(cases.fits, wanted, case=case, history=history)
            self.check_all_ways(cases.wrong_in, (() if wanted else (telling,), ()), case=case, history=history)


class Telling(Case):
    def with_tellings(self, *told):
        return (TIMBER, 2, told, TALE[3])

    def check_telling(self, telling, wanted):
        photo, cell, seen = telling
        self.check_all_ways(cases.with_telling, wanted, case=TALE, photo=photo, cell=cell, seen=seen)

    def test_with_telling(self):
        first, second, third = TALE[2]
        self.check_telling((1, 20, "-"), self.with_tellings(first, second, third, (1, 20, "-")))
        self.check_telling((0, -FAR, "-"), self.with_tellings((0, -FAR, "-"), first, second, third))
        self.check_telling((1, 2, "c"), self.with_tellings(first, (1, 2, "c"), second, third))
        self.check_telling((0, 5, "a"), self.with_tellings((0, 5, "a"), first, second, third))
        self.check_telling((0, 5, "-"), self.with_tellings((0, 5, "-"), first, second, third))
        self.check_telling((0, 9, "b"), self.with_tellings(first, (0, 9, "b"), second, third))

    def test_what_stands_there_already(self):
        for telling in TALE[2]:
            self.check_telling(telling, TALE)

    def test_first_telling(self):
        wanted = ((), 1, ((0, FAR, "-"),), ())
        self.check_all_ways(cases.with_telling, wanted, case=((), 1, (), ()), photo=0, cell=FAR, seen="-")

    def refuse(self, error_name, fields, case, photo, cell, seen):
        self.refused_all_ways(error_name, fields, cases.with_telling, case=case, photo=photo, cell=cell, seen=seen)

    def test_no_photo_comes_first(self):
        for photo in (2, -1, FAR):
            for cell, seen in ((8, "q"), (8, "a"), (8, "b"), (8, "-")):
                self.refuse("NoPhoto", {"photo": photo}, TALE, photo, cell, seen)
        self.refuse("NoPhoto", {"photo": 0}, BARE, 0, 1, "a")
        self.refuse("NoPhoto", {"photo": 0}, NOTHING, 0, 1, "-")

    def test_no_name(self):
        self.refuse("NoName", {"name": "q"}, TALE, 1, 8, "q")
        self.refuse("NoName", {"name": "ab"}, TALE, 0, 8, "ab")
        self.refuse("NoName", {"name": "a"}, ((), 1, (), ()), 0, 8, "a")

    def test_not_over(self):
        for cell, seen in ((8, "a"), (0, "a"), (7, "a"), (3, "b"), (10, "b"), (FAR, "c"), (-FAR, "c")):
            self.refuse("NotOver", {"name": seen, "cell": cell}, TALE, 1, cell, seen)


class Knowing(Case):
    def check_fact(self, fact, *facts):
        self.check_all_ways(cases.with_fact, (TIMBER, 2, TALE[2], facts), case=TALE, fact=fact)

    def test_with_fact(self):
        first, second = TALE[3]
        self.check_fact(("there", 1, "c"), first, second, ("there", 1, "c"))
        self.check_fact(("there", 0, "a"), first, second, ("there", 0, "a"))
        self.check_fact(("not", 1, "a"), first, second, ("not", 1, "a"))
        self.check_fact(("not", 0, "b"), first, second, ("not", 0, "b"))
        self.check_fact(("before", "c", "b"), first, ("before", "c", "b"), second)
        self.check_fact(("before", "a", "c"), ("before", "a", "c"), first, second)

    def test_what_stands_there_already(self):
        for fact in TALE[3]:
            self.check_fact(fact, *TALE[3])

    def refuse(self, error_name, fields, case, fact):
        self.refused_all_ways(error_name, fields, cases.with_fact, case=case, fact=fact)

    def test_no_name(self):
        self.refuse("NoName", {"name": "q"}, TALE, ("before", "q", "p"))
        self.refuse("NoName", {"name": "p"}, TALE, ("before", "p", "q"))
        self.refuse("NoName", {"name": "q"}, TALE, ("before", "a", "q"))
        self.refuse("NoName", {"name": "q"}, TALE, ("before", "q", "a"))
        self.refuse("NoName", {"name": "d"}, TALE, ("there", 1, "d"))
        self.refuse("NoName", {"name": "d"}, TALE, ("not", 0, "d"))
        self.refuse("NoName", {"name": "a"}, NOTHING, ("before", "a", "b"))

    def test_no_photo_comes_first(self):
        for word in ("there", "not"):
            for photo in (2, -1, FAR, -FAR):
                for name in ("a", "q"):
                    self.refuse("NoPhoto", {"photo": photo}, TALE, (word, photo, name))
            self.refuse("NoPhoto", {"photo": 0}, BARE, (word, 0, "a"))

    def test_before_needs_no_photo(self):
        wanted = (TIMBER, 0, (), (("before", "c", "a"),))
        self.check_all_ways(cases.with_fact, wanted, case=BARE, fact=("before", "c", "a"))


class Photographing(Case):
    def test_with_photo(self):
        self.check_all_ways(cases.with_photo, (TIMBER, 3) + TALE[2:], case=TALE)
        self.check_all_ways(cases.with_photo, ((), 1, (), ()), case=NOTHING)

    def test_photographed(self):
        told = ((0, 1, "-"), (0, 2, "-"), (0, 4, "b"), (0, 6, "b"), (0, 7, "b"))
        self.check_all_ways(cases.photographed, (TIMBER, 1, told, ()), fence=TIMBER, history=("b", 0, "a", "c"))
        more = told + ((1, 1, "a"), (1, 2, "a"), (1, 4, "a"), (1, 6, "a"), (1, 7, "b"))
        self.check_all_ways(cases.photographed, (TIMBER, 2, more, ()), fence=TIMBER, history=ROW)

    def test_without_photos_or_bills(self):
        self.check_all_ways(cases.photographed, BARE, fence=TIMBER, history=("c", "a", "b"))
        self.check_all_ways(cases.photographed, ((), 2, (), ()), fence=(), history=(0, 1))
        self.check_all_ways(cases.photographed, NOTHING, fence=(), history=())

    def test_gaps_are_not_told_of(self):
        told = ((0, -9, "p"), (0, 3, "-"))
        self.check_all_ways(cases.photographed, (GAPPED, 1, told, ()), fence=GAPPED, history=("p", 0, "q"))

    def test_great_cells(self):
        told = ((0, -FAR, "all"), (0, 0, "mid"), (0, 1, "all"))
        self.check_all_ways(cases.photographed, (WIDE, 1, told, ()), fence=WIDE, history=("all", "mid", 0))


def pasted(fence, history, photo):
    """Paste one BILL after another up to the PHOTO, CELL by CELL: who is on top where."""
    tops = {}
    for part in history:
        if part == photo:
            return tops
        for name, first, last in fence:
            if name == part:
                tops.update({cell: name for cell in range(first, last + 1)})
    raise AssertionError("no such photo")


FENCES = (
    (("a", 0, 1), ("b", 1, 2)),
    (("a", 0, 3), ("b", 1, 2), ("c", 2, 4)),
    (("a", -1, 0), ("b", 2, 2), ("c", 0, 2)),
    (("a", 0, 0), ("b", 1, 1), ("c", 3, 3)),
)


class AllSmallHistories(Case):
    def test_against_pasting(self):
        for fence, photos in itertools.product(FENCES, range(3)):
            for history in histories([bill[0] for bill in fence], photos):
                self.assertTrue(cases.is_history(fence, photos, history))
                self.check_seen(fence, photos, history)

    def check_seen(self, fence, photos, history):
        case = cases.photographed(fence, history)
        self.assertTrue(cases.is_case(case))
        self.assertTrue(cases.fits(case, history))
        for photo in range(photos):
            tops = pasted(fence, history, photo)
            there = [name for name, first, last in fence if history.index(name) < history.index(photo)]
            self.check(cases.there_at(history, photo), tuple(there))
            for cell in range(-2, 6):
                self.check(cases.seen_at(fence, history, photo, cell), tops.get(cell, "-"))
            shown = [seen for at, cell, seen in case[2] if at == photo]
            self.check(cases.seen_on(fence, history, photo), tuple(shown))
            for at, cell, seen in case[2]:
                if at == photo:
                    self.assertEqual(tops.get(cell, "-"), seen)

    def test_tellings_and_facts_against_pasting(self):
        fence, photos = FENCES[1], 2
        told = [(photo, cell, seen) for photo in range(photos) for cell in range(0, 5)
                for seen in ("-",) + tuple([name for name, first, last in fence if first <= cell <= last])]
        facts = [("before", one, other) for one in "abc" for other in "abc" if one != other]
        facts += [(word, photo, name) for word in ("not", "there") for photo in range(photos) for name in "abc"]
        case = (fence, photos, tuple(sorted(told)), tuple(sorted(facts)))
        self.assertTrue(cases.is_case(case))
        for history in histories("abc", photos):
            wrong_told = [telling for telling in sorted(told)
                          if pasted(fence, history, telling[0]).get(telling[1], "-") != telling[2]]
            wrong_facts = [fact for fact in sorted(facts) if not self.fact_is_so(history, fact)]
            self.check(cases.wrong_in(case, history), (tuple(wrong_told), tuple(wrong_facts)))

    def fact_is_so(self, history, fact):
        word, one, other = fact
        place = history.index
        return place(other) < place(one) if word == "there" else place(one) < place(other)

    def test_slots_against_counting(self):
        for history in histories("abc", 3):
            for name in "abc":
                ahead = sum(1 for photo in range(3) if history.index(photo) < history.index(name))
                self.check(cases.slot_of(history, name), ahead)


if __name__ == "__main__":
    unittest.main()
