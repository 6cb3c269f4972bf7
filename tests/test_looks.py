"""LOOKs: against all ORDERs, numbers there and back, wishes, wrong inputs."""

import itertools
import random
import unittest

from lastpasted import bills, looks
from tests.support import FAR, LONE, Case, names_over, small_fence, spoiled, top_said

FENCE = (("a", 1, 6), ("b", 4, 9), ("c", 2, 5))
EVERY = (("a", "a", "a", "a", "b"), ("a", "a", "b", "b", "b"), ("a", "c", "b", "b", "b"), ("a", "c", "c", "a", "b"),
         ("a", "c", "c", "b", "b"))
TOUCHING = (("a", 1, 2), ("b", 3, 4), ("c", 9, 9))
NESTED = tuple([(sign, -FAR + at, FAR - at) for at, sign in enumerate("abcdefghi")])
STAIRS = tuple([(sign, at * 10, at * 10 + 85) for at, sign in enumerate("abcdefghi")])


class Looks(Case):
    def test_look_of(self):
        for fence, order, wanted in ((FENCE, ("a", "b", "c"), EVERY[4]), (FENCE, ("c", "b", "a"), EVERY[0]),
                                     ((), (), ()), (TOUCHING, ("c", "b", "a"), ("a", "b", "c"))):
            self.check_all_ways(looks.look_of, wanted, fence=fence, order=order)

    def test_is_look(self):
        for thing, wanted in ((EVERY[0], True), (("a", "a", "c", "a", "b"), False), (("a", "a", "a", "b", "b"), False),
                              (list(EVERY[0]), False), (EVERY[0][:-1], False), (EVERY[0] + ("b",), False), ((), False),
                              (("b", "a", "a", "a", "b"), False), (("a", "a", "a", "a", "-"), False),
                              (("a", "a", "a", "a", None), False), (("a", "a", "a", "a", ["b"]), False),
                              (("a", "a", "a", "a", 1), False), ("aaaab", False)):
            self.check_all_ways(looks.is_look, wanted, fence=FENCE, thing=thing)
        for look in EVERY:
            self.check(looks.is_look(FENCE, look), True)
        for thing in LONE:
            self.check(looks.is_look(FENCE, thing), False)
            self.check(looks.is_look((), thing), type(thing) is tuple and thing == ())

    def test_spoiled_looks(self):
        for thing in spoiled(EVERY[3]):
            wanted = type(thing) is tuple and thing in EVERY
            self.assertIs(looks.is_look(FENCE, thing), wanted, repr(thing))

    def test_beyond_the_bounds(self):
        fence = tuple([(one + other, at, at + 7) for at, (one, other) in
                       enumerate(itertools.product("abcdef", repeat=2))])
        look = looks.look_of(fence, bills.names(fence))
        self.check(looks.is_look(fence, look), True)
        self.check(looks.is_look(fence, look[:-9] + ("ee",) + look[-8:]), False)

    def test_first_wrong(self):
        for seen, wanted in ((("a", "a", "c", "a", "b"), 2), (("a", "a", "a", "b", "b"), 3), (EVERY[2], None),
                             (("a", "a", "b", "a", "b"), 3), (("a", "a", "c", "b", "b"), 2),
                             (("a", "c", "a", "b", "b"), 2)):
            self.check_all_ways(looks.first_wrong, wanted, fence=FENCE, seen=seen)
        self.check_all_ways(looks.first_wrong, None, fence=(), seen=())

    def test_look_order(self):
        for fence, look in ((FENCE, EVERY[3]), (FENCE, EVERY[0]), ((), ()), (TOUCHING, ("a", "b", "c"))):
            order = looks.look_order(fence, look)
            self.check(looks.look_of(fence, order), look)
            self.check_all_ways(looks.look_order, order, fence=fence, look=look)


class Numbers(Case):
    def test_how_many_looks(self):
        for fence, wanted in ((FENCE, 5), ((), 1), ((("a", 1, 2), ("b", 2, 3)), 2), (TOUCHING, 1)):
            self.check_all_ways(looks.how_many_looks, wanted, fence=fence)

    def test_nth_look_and_back(self):
        for number, look in enumerate(EVERY):
            self.check_all_ways(looks.nth_look, look, fence=FENCE, number=number)
            self.check_all_ways(looks.number_of_look, number, fence=FENCE, look=look)
        self.check_all_ways(looks.nth_look, (), fence=(), number=0)
        self.check_all_ways(looks.number_of_look, 0, fence=(), look=())

    def test_no_number(self):
        for fence, number in ((FENCE, 5), (FENCE, -1), (FENCE, FAR), (FENCE, -FAR), ((), 1), ((), -1), (TOUCHING, 1)):
            self.refused_all_ways("NoNumber", {"number": number}, looks.nth_look, fence=fence, number=number)

    def test_how_many_show(self):
        for fence, wanted in ((FENCE, (("a", 5), ("b", 5), ("c", 3))), ((), ()),
                              (TOUCHING, (("a", 1), ("b", 1), ("c", 1)))):
            self.check_all_ways(looks.how_many_show, wanted, fence=fence)

    def test_at_the_bounds(self):
        for fence in (NESTED, STAIRS):
            many = looks.how_many_looks(fence)
            for number in (0, 1, many // 3, many - 1):
                look = looks.nth_look(fence, number)
                self.check(looks.is_look(fence, look), True)
                self.check(looks.number_of_look(fence, look), number)
            self.refused("NoNumber", {"number": many}, looks.nth_look, fence, many)
            for _, shown in looks.how_many_show(fence):
                self.assertLessEqual(1, shown)
                self.assertLessEqual(shown, many)
        # Of nested BILLs each one is hidden or not; the outermost one never is.
        self.check(looks.nth_look(NESTED, 0), ("a",) * 17)


class Wishes(Case):
    def test_how_many_with(self):
        for wishes, hidden, wanted in ((((3, "b"),), (), 3), ((), ("c",), 2), (((2, "c"),), ("c",), 0), ((), (), 5),
                                       (((0, "b"),), (), 0), (((0, "a"), (4, "b")), (), 5), ((), ("a",), 0),
                                       (((1, "c"), (3, "a")), (), 1), (((4, "b"),), ("b", "c"), 0)):
            self.check_all_ways(looks.how_many_with, wanted, fence=FENCE, wishes=wishes, hidden=hidden)
        self.check_all_ways(looks.how_many_with, 1, fence=(), wishes=(), hidden=())

    def test_nth_with(self):
        for wishes, hidden, number, wanted in ((((3, "b"),), (), 1, EVERY[2]), ((), ("c",), 1, EVERY[1]),
                                               (((3, "b"),), (), 0, EVERY[1]), (((3, "b"),), (), 2, EVERY[4]),
                                               ((), (), 3, EVERY[3])):
            self.check_all_ways(looks.nth_with, wanted, fence=FENCE, wishes=wishes, hidden=hidden, number=number)
        self.check_all_ways(looks.nth_with, (), fence=(), wishes=(), hidden=(), number=0)

    def test_shown_with(self):
        for wishes, hidden, wanted in ((((3, "b"),), (), (("a",), ("a", "c"), ("b", "c"), ("b",), ("b",))),
                                       ((), ("a",), ((), (), (), (), ())),
                                       ((), (), (("a",), ("a", "c"), ("a", "b", "c"), ("a", "b"), ("b",))),
                                       (((1, "c"), (3, "a")), (), (("a",), ("c",), ("c",), ("a",), ("b",)))):
            self.check_all_ways(looks.shown_with, wanted, fence=FENCE, wishes=wishes, hidden=hidden)
        self.check_all_ways(looks.shown_with, (), fence=(), wishes=(), hidden=())

    def refuse(self, error_name, fields, wishes, hidden):
        for call in (looks.how_many_with, looks.shown_with):
            self.refused_all_ways(error_name, fields, call, fence=FENCE, wishes=wishes, hidden=hidden)
        for number in (-1, 0, FAR):
            self.refused_all_ways(error_name, fields, looks.nth_with,
                                  fence=FENCE, wishes=wishes, hidden=hidden, number=number)

    def test_no_place_comes_first(self):
        self.refuse("NoNumber", {"number": 5}, ((5, "x"),), ())
        self.refuse("NoNumber", {"number": -1}, ((-1, "x"), (5, "a")), ("y",))
        self.refuse("NoNumber", {"number": 5}, ((0, "x"), (5, "a"), (7, "a")), ("y",))
        self.refuse("NoNumber", {"number": FAR}, ((0, "a"), (FAR, "a")), ())

    def test_no_name(self):
        self.refuse("NoName", {"name": "x"}, ((0, "x"), (1, "w")), ("y",))
        self.refuse("NoName", {"name": "w"}, ((0, "a"), (1, "w")), ("b", "y"))
        self.refuse("NoName", {"name": "y"}, ((0, "a"),), ("b", "y", "z"))
        self.refuse("NoName", {"name": "y"}, ((0, "b"),), ("y",))

    def test_no_number_comes_last(self):
        for wishes, hidden, number in (((), (), 5), (((3, "b"),), (), 3), (((2, "c"),), ("c",), 0), ((), (), -1),
                                       (((0, "b"),), (), 0), ((), ("a",), 0), ((), (), FAR)):
            self.refused_all_ways("NoNumber", {"number": number}, looks.nth_with,
                                  fence=FENCE, wishes=wishes, hidden=hidden, number=number)

    def test_no_piece_at_all(self):
        self.refused_all_ways("NoNumber", {"number": 0}, looks.how_many_with, fence=(), wishes=((0, "a"),), hidden=())
        self.refused_all_ways("NoName", {"name": "a"}, looks.how_many_with, fence=(), wishes=(), hidden=("a",))


class AllSmallOrders(Case):
    def test_against_all_orders(self):
        chance = random.Random(12)
        for _ in range(150):
            fence = small_fence(chance, "abcde"[:chance.randint(0, 5)])
            known, places = bills.names(fence), bills.pieces(fence)
            every = set()
            for order in itertools.permutations(known):
                look = tuple([top_said(fence, order, cell) for cell, _ in places])
                self.check(looks.look_of(fence, order), look)
                every.add(look)
            self.check_numbers(fence, sorted(every))
            self.check_rule(fence, places, every)
            for _ in range(4):
                some = sorted(chance.sample(range(len(places)), min(len(places), chance.randint(0, 2))))
                wishes = tuple([(place, chance.choice(known)) for place in some])
                hidden = tuple(sorted(chance.sample(known, chance.randint(0, len(known)))))[:2]
                self.check_wishes(fence, places, sorted(every), wishes, hidden)

    def check_numbers(self, fence, every):
        self.check(looks.how_many_looks(fence), len(every))
        for number, look in enumerate(every):
            self.check(looks.nth_look(fence, number), look)
            self.check(looks.number_of_look(fence, look), number)
            self.check(looks.look_of(fence, looks.look_order(fence, look)), look)
        shown = [(name, len([look for look in every if name in look])) for name in bills.names(fence)]
        self.check(looks.how_many_show(fence), tuple(shown))

    def check_rule(self, fence, places, every):
        begin = {name: min(at for at, (cell, _) in enumerate(places) if name in names_over(fence, cell))
                 for name in bills.names(fence)}
        over = [names_over(fence, cell) for cell, _ in places]
        for seen in itertools.islice(itertools.product(*over), 200):
            wrong = [at for at, name in enumerate(seen) for ahead in range(at)
                     if seen[ahead] != name and seen[ahead] in over[at] and begin[name] <= ahead]
            self.check(looks.first_wrong(fence, seen), min(wrong, default=None))
            self.check(looks.is_look(fence, seen), seen in every)
            self.assertEqual(wrong == [], seen in every)

    def check_wishes(self, fence, places, every, wishes, hidden):
        kept = [look for look in every if all(look[place] == name for place, name in wishes)
                and not any(name in look for name in hidden)]
        self.check(looks.how_many_with(fence, wishes, hidden), len(kept))
        for number, look in enumerate(kept):
            self.check(looks.nth_with(fence, wishes, hidden, number), look)
        self.refused("NoNumber", {"number": len(kept)}, looks.nth_with, fence, wishes, hidden, len(kept))
        shown = [tuple(sorted({look[place] for look in kept})) for place in range(len(places))]
        self.check(looks.shown_with(fence, wishes, hidden), tuple(shown))


if __name__ == "__main__":
    unittest.main()
