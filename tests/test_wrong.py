"""Wrong TELLINGS: against all HISTORYs and all sets of TELLINGS, edges, wrong inputs, and at the bounds."""

import itertools
import unittest

from lastpasted import cases, latest, wrong
from tests.support import FAR, LONE, Case, great_case, histories, same, small_cases, spoiled

FENCE = (("a", 1, 6), ("b", 4, 9), ("c", 2, 5))
TOLD = ((0, 3, "c"), (0, 5, "a"), (0, 8, "b"))
ODD = (FENCE, 1, TOLD, ())
MORE = (FENCE, 1, TOLD, (("before", "a", "b"), ("there", 0, "b")))
GONE = (FENCE, 2, ((0, 4, "a"), (1, 4, "-")), ())
TWO = (FENCE, 1, ((0, 3, "-"), (0, 3, "a"), (0, 5, "b"), (0, 5, "c"), (0, 6, "a")), ())
PLAIN = (FENCE, 1, TOLD[1:], ())
EMPTY = (FENCE, 1, (), ())
NOTHING = ((), 0, (), ())
NEVER = (FENCE, 1, TOLD, (("not", 0, "a"), ("there", 0, "a")))
RING = (FENCE, 0, (), (("before", "a", "b"), ("before", "b", "a")))
CALLS = (wrong.a_core, wrong.all_cores, wrong.fewest_wrong, wrong.least_wrong, wrong.all_least_wrong,
         wrong.surely_wrong,
         wrong.suspects, wrong.trusted)


def with_told(case, told):
    return (case[0], case[1], tuple(told), case[3])


def all_sets(members):
    """All sets of these, those of fewer first, of as many the least one first."""
    return [some for many in range(len(members) + 1) for some in sorted(itertools.combinations(members, many))]


class Small(Case):
    def test_left_out(self):
        for case, gone, wanted in ((MORE, TOLD[1:2], TOLD[::2]), (MORE, (), TOLD), (MORE, TOLD, ()),
                                   (ODD, ((0, 3, "a"), (0, 5, "a"), (7, FAR, "zz")), TOLD[::2]), (NOTHING, TOLD, ()),
                                   (PLAIN, ((0, 5, "b"),), TOLD[1:])):
            self.check_all_ways(wrong.left_out, with_told(case, wanted), case=case, gone=gone)

    def test_cores(self):
        for case, cores in ((ODD, [TOLD[:2]]), (MORE, [TOLD[1:2]]), (PLAIN, []), (EMPTY, []), (NOTHING, []),
                            (GONE, [GONE[2]])):
            self.check_all_ways(wrong.all_cores, cores, case=case)
            core = wrong.a_core(case)
            self.check_all_ways(wrong.a_core, core, case=case)
            self.assertTrue(core in cores if cores else core is None)
            for thing in all_sets(case[2]):
                self.check_all_ways(wrong.is_core, thing in cores, case=case, thing=thing)

    def test_is_core(self):
        for thing, wanted in ((TOLD[:2], True), (TOLD[:2][::-1], False), (TOLD, False), (TOLD[:1], False), ((), False),
                              (list(TOLD[:2]), False), ((TOLD[0], list(TOLD[1])), False), (TOLD[:2] + TOLD[1:2], False),
                              (((False, 3, "c"), TOLD[1]), False), (TOLD[0], False), (None, False), ("", False),
                              (TOLD[:1] + ((0, 5, "b"),), False), (TOLD[:1] * 2, False)):
            self.check_all_ways(wrong.is_core, wanted, case=ODD, thing=thing)
        for thing in spoiled(TOLD[:2]):
            self.assertIs(wrong.is_core(ODD, thing), same(thing, TOLD[:2]), repr(thing))
        for case in (ODD, PLAIN, NOTHING):
            for thing in LONE:
                self.check(wrong.is_core(case, thing), False)

    def test_what_is_wrong(self):
        for case, least, sure, suspects in (
                (ODD, [TOLD[:1], TOLD[1:2]], (), TOLD[:2]), (MORE, [TOLD[1:2]], TOLD[1:2], TOLD[1:2]),
                (PLAIN, [()], (), ()),
                (NOTHING, [()], (), ()), (EMPTY, [()], (), ()), (GONE, [GONE[2][:1], GONE[2][1:]], (), GONE[2]),
                (TWO, [(TWO[2][0], TWO[2][2], TWO[2][3])], (), TWO[2])):
            if case != TWO:
                self.check_all_ways(wrong.all_least_wrong, least, case=case)
            self.check_all_ways(wrong.fewest_wrong, len(least[0]), case=case)
            self.check_all_ways(wrong.least_wrong, wrong.all_least_wrong(case)[0], case=case)
            self.check_all_ways(wrong.surely_wrong, sure, case=case)
            self.check_all_ways(wrong.suspects, suspects, case=case)
            rest = tuple([telling for telling in case[2] if telling not in suspects])
            self.check_all_ways(wrong.trusted, rest, case=case)

    def test_no_history_for_the_facts_alone(self):
        for case in (NEVER, RING, with_told(NEVER, ())):
            for call in CALLS:
                self.refused_all_ways("NoHistory", {}, call, case=case)
            for gone in ((), TOLD, ((9, 9, "zz"),)):
                self.refused_all_ways("NoHistory", {}, wrong.left_out, case=case, gone=gone)
            for thing in LONE + (TOLD[:2], list(TOLD)):
                self.refused("NoHistory", {}, wrong.is_core, case, thing)
            self.refused_all_ways("NoHistory", {}, wrong.is_core, case=case, thing=())

    def test_lists_are_new(self):
        for call in (wrong.all_cores, wrong.all_least_wrong):
            wanted = list(call(ODD))
            call(ODD).append("x")
            self.check(call(ODD), wanted)


class AllSmallHistories(Case):
    def test_against_all_histories_and_all_sets(self):
        found = [0, 0, 0]
        for case in small_cases(41, 500):
            known = [bill[0] for bill in case[0]]
            wrong_sets = [cases.wrong_in(case, history) for history in histories(known, case[1])]
            barred = [set(told) for told, facts in wrong_sets if not facts]
            if not barred:
                for call in CALLS:
                    self.refused("NoHistory", {}, call, case)
                self.refused("NoHistory", {}, wrong.left_out, case, ())
                self.refused("NoHistory", {}, wrong.is_core, case, ())
                found[0] += 1
                continue
            fitting = [some for some in all_sets(case[2]) if any(not set(some) & told for told in barred)]
            self.check_cores(case, fitting)
            self.check_clearing(case, fitting)
            found[1 + (case[2] in fitting)] += 1
        self.assertGreater(min(found), 40)

    def check_cores(self, case, fitting):
        cores = [some for some in all_sets(case[2]) if some not in fitting and all(
            less in fitting for less in itertools.combinations(some, len(some) - 1))]
        self.check(wrong.all_cores(case), cores)
        core = wrong.a_core(case)
        self.assertTrue(core in cores if cores else core is None)
        for some in all_sets(case[2]):
            self.check(wrong.is_core(case, some), some in cores)
            self.assertEqual(latest.can_fit(wrong.left_out(case, [part for part in case[2] if part not in some])),
                             some in fitting)
        suspects = tuple([part for part in case[2] if any(part in core for core in cores)])
        self.check(wrong.suspects(case), suspects)
        self.check(wrong.trusted(case), tuple([part for part in case[2] if part not in suspects]))

    def check_clearing(self, case, fitting):
        clearing = [some for some in all_sets(case[2])
                    if tuple([part for part in case[2] if part not in some]) in fitting]
        least = [some for some in clearing if len(some) == len(clearing[0])]
        self.check(wrong.fewest_wrong(case), len(clearing[0]))
        self.check(wrong.least_wrong(case), least[0])
        self.check(wrong.all_least_wrong(case), least)
        sure = [part for part in case[2] if all(part in some for some in clearing)]
        self.check(wrong.surely_wrong(case), tuple(sure))
        # A TELLING is a suspect exactly if it stands in a set that clears of which nothing can be put back.
        tight = [some for some in clearing if not any(
            tuple([part for part in some if part != back]) in clearing for back in some)]
        self.check(wrong.suspects(case), tuple([part for part in case[2] if any(part in some for some in tight)]))


class Bounds(Case):
    def test_eight_tellings(self):
        (fence, photos, told, facts), _ = great_case()
        self.check(wrong.all_cores((fence, photos, told[:8], facts)), [])
        # Four answers in each of two CELLs, and nothing there in a third one.
        fence = tuple([(sign, -FAR + at, FAR - at) for at, sign in enumerate("abcdefghijkl")])
        told = tuple([(0, FAR - 20, sign) for sign in "abcd"] + [(1, 20 - FAR, sign) for sign in "abcd"])
        case = (fence, 2, told, ())
        cores = wrong.all_cores(case)
        self.check(len([core for core in cores if len(core) == 2]), 12)
        self.check(wrong.fewest_wrong(case), 6)
        self.check(len(wrong.all_least_wrong(case)), 16)
        self.check(wrong.suspects(case), told)
        self.check(wrong.is_core(case, wrong.a_core(case)), True)

    def test_is_core_beyond_eight_tellings(self):
        told = tuple([(0, 5, sign) for sign in "-abc"] + [(0, cell, "-") for cell in range(20, 50)])
        case = (FENCE, 1, told, ())
        for pair in itertools.combinations(told[:4], 2):
            self.check(wrong.is_core(case, pair), True)
        self.check(wrong.is_core(case, told[:3]), False)
        self.check(wrong.is_core(case, told), False)


if __name__ == "__main__":
    unittest.main()
