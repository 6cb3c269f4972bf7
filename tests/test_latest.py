"""The latest HISTORY, STEPs and CLASHes."""

import itertools
import unittest

from lastpasted import cases, latest
from tests.support import FAR, LONE, Case, great_case, histories, names_over, same, small_cases, spoiled

FENCE = (("a", 1, 6), ("b", 4, 9), ("c", 2, 5))
TWO = (FENCE, 2, ((0, 4, "a"), (1, 4, "c")), ())
LATE = (FENCE, 2, ((1, 5, "a"),), (("there", 0, "a"), ("there", 1, "b")))
ONE = (FENCE, 1, ((0, 3, "c"), (0, 5, "a")), ())
BARE = (FENCE, 2, ((1, 8, "-"),), (("before", "b", "c"), ("there", 0, "c")))
NOTHING = ((), 0, (), ())
EMPTY = ((), 2, ((0, 3, "-"), (1, 3, "-")), ())
NO_PHOTO = (FENCE, 0, (), ())
ROUND = (FENCE, 0, (), (("before", "a", "b"), ("before", "b", "c"), ("before", "c", "a")))
WRONG = (FENCE, 1, ((0, 8, "b"),), (("not", 0, "b"),))
APART = ((("a", 0, 3), ("b", 2, 5), ("z", 9, 9)), 1, ((0, 2, "a"), (0, 8, "-")), ())


def stands(members, thing):
    return any(same(member, thing) for member in members)


def there(steps, name, photo):
    return any(step[0] == name and step[1] <= photo for step in steps)


def follows_said(case, ahead, step):
    """What the document says of a STEP that follows from those ahead of it, case by case."""
    fence, photos, told, facts = case
    name, photo, reason = step
    if stands(told, reason):
        at, cell, seen = reason
        if seen == name:
            return at <= photo
        return (seen != "-" and name in names_over(fence, cell) and there(ahead, name, at)
                and there(ahead, seen, photo))
    word, one, last = reason
    if word == "there":
        return last == name and one <= photo
    return word == "before" and one == name and there(ahead, last, photo)


def step_said(case, thing):
    fence, photos, told, facts = case
    if type(thing) is not tuple or len(thing) != 3:
        return False
    name, photo, reason = thing
    if not any(same(name, bill[0]) for bill in fence) or type(photo) is not int or not 0 <= photo < photos:
        return False
    return stands(told, reason) or stands(facts, reason)


def steps_said(case, thing):
    if type(thing) is not tuple or not all(step_said(case, step) for step in thing):
        return False
    return all(follows_said(case, thing[:at], step) for at, step in enumerate(thing))


def above_said(case, steps, name, reason, lower):
    fence, photos, told, facts = case
    if stands(told, reason):
        return reason[2] == name and lower in names_over(fence, reason[1]) and there(steps, lower, reason[0])
    return stands(facts, reason) and same(reason, ("before", lower, name))


def ring_said(case, steps, thing):
    if type(thing) is not tuple or len(thing) < 2:
        return False
    if not all(type(part) is tuple and len(part) == 2 and type(part[0]) is str for part in thing):
        return False
    if len({name for name, reason in thing}) != len(thing):
        return False
    return all(above_said(case, steps, name, reason, thing[(at + 1) % len(thing)][0])
               for at, (name, reason) in enumerate(thing))


def clash_said(case, thing):
    fence, photos, told, facts = case
    if type(thing) is not tuple or len(thing) != 2 or not steps_said(case, thing[0]):
        return False
    steps, end = thing
    if stands(told, end):
        return end[2] == "-" and any(there(steps, name, end[0]) for name in names_over(fence, end[1]))
    if stands(facts, end):
        return end[0] == "not" and there(steps, end[2], end[1])
    return ring_said(case, steps, end)


def fitting(case):
    return [history for history in histories([bill[0] for bill in case[0]], case[1]) if cases.fits(case, history)]


class Clashes(Case):
    def test_can_fit(self):
        for case, wanted in ((TWO, True), (LATE, True), (ONE, False), (BARE, False), (NOTHING, True), (EMPTY, True),
                             (NO_PHOTO, True), (ROUND, False), (WRONG, False), (APART, True)):
            self.check_all_ways(latest.can_fit, wanted, case=case)

    def test_a_clash(self):
        for case in (ONE, BARE, ROUND, WRONG):
            found = latest.a_clash(case)
            self.assertTrue(clash_said(case, found))
            self.check_all_ways(latest.a_clash, found, case=case)
            self.check_all_ways(latest.is_clash, True, case=case, thing=found)
        for case in (TWO, LATE, NOTHING, EMPTY, NO_PHOTO, APART):
            self.check_all_ways(latest.a_clash, None, case=case)
            self.check_all_ways(latest.is_clash, False, case=case, thing=((), ()))

    def test_what_stays_needs_no_step(self):
        # Without PHOTOs there are no STEPs: the FACTs alone make the ring.
        steps, ring = latest.a_clash(ROUND)
        self.check(steps, ())
        self.assertEqual(len(ring), 3)

    def test_each_kind_of_end(self):
        step = ("c", 0, ("there", 0, "c"))
        bare = (step, ("b", 0, ("before", "b", "c")))
        self.check(latest.is_clash(BARE, (bare, (1, 8, "-"))), True)
        self.check(latest.is_clash(BARE, (bare[:1], (1, 8, "-"))), False)
        self.check(latest.is_clash(BARE, ((step, ("b", 1, bare[1][2])), (1, 8, "-"))), True)
        self.check(latest.is_clash(WRONG, ((("b", 0, (0, 8, "b")),), ("not", 0, "b"))), True)
        self.check(latest.is_clash(WRONG, ((), ("not", 0, "b"))), False)
        self.check(latest.is_clash(WRONG, ((("b", 0, (0, 8, "b")),), (0, 8, "b"))), False)

    def test_an_end_of_an_earlier_photo(self):
        case = (FENCE, 3, ((0, 8, "-"), (1, 8, "b"), (2, 8, "-")), (("not", 0, "b"), ("not", 1, "b"), ("not", 2, "b")))
        step = ("b", 1, (1, 8, "b"))
        for end, wanted in (((0, 8, "-"), False), ((1, 8, "b"), False), ((2, 8, "-"), True), (("not", 0, "b"), False),
                            (("not", 1, "b"), True), (("not", 2, "b"), True), ((1, 8, "-"), False)):
            self.check_all_ways(latest.is_clash, wanted, case=case, thing=((step,), end))
            self.assertIs(clash_said(case, ((step,), end)), wanted)

    def test_rings(self):
        steps = (("a", 0, (0, 5, "a")), ("c", 0, (0, 3, "c")))
        over_c, over_a = ("a", (0, 5, "a")), ("c", (0, 3, "c"))
        for ring, wanted in (((over_c, over_a), True), ((over_a, over_c), True), ((over_c,), False), ((), False),
                             ((over_c, over_a, over_c, over_a), False), ((over_c, over_c), False),
                             ((over_c, over_a, over_c), False), (("a", (0, 3, "c")), False), ([over_c, over_a], False),
                             ((over_c, list(over_a)), False), ((over_c, ("c", (0, 5, "a"))), False),
                             ((over_c, ("b", (0, 3, "c"))), False), ((over_c, ("c", (False, 3, "c"))), False),
                             ((over_c, over_a, ("b", (0, 5, "a"))), False), ((over_c, (["c"], (0, 3, "c"))), False)):
            self.check(latest.is_clash(ONE, (steps, ring)), wanted)
            self.check(latest.is_clash(ONE, (steps + steps, ring)), wanted)
            self.check(latest.is_clash(ONE, (steps[:1], ring)), False)
            self.check(latest.is_clash(ONE, (steps[1:], ring)), False)
        self.check(latest.is_clash(ROUND, ((), (("a", ("before", "c", "a")), ("c", ("before", "b", "c")),
                                               ("b", ("before", "a", "b"))))), True)
        self.check(latest.is_clash(ROUND, ((), (("b", ("before", "a", "b")), ("c", ("before", "b", "c")),
                                               ("a", ("before", "c", "a"))))), False)

    def test_no_name_twice_in_a_ring(self):
        case = (FENCE, 1, ((0, 2, "c"), (0, 3, "c"), (0, 4, "a"), (0, 5, "a")), ())
        steps = (("a", 0, (0, 5, "a")), ("c", 0, (0, 3, "c")))
        ring = (("a", (0, 5, "a")), ("c", (0, 3, "c")), ("a", (0, 4, "a")), ("c", (0, 2, "c")))
        self.check(latest.is_clash(case, (steps, ring)), False)
        self.check(latest.is_clash(case, (steps, ring[:2])), True)
        self.check(latest.is_clash(case, (steps, ring[2:])), True)
        self.check(latest.is_clash(case, (steps, ring[1:3])), True)

    def test_rings_of_facts_and_tellings(self):
        case = (FENCE, 1, ((0, 5, "a"),), (("before", "a", "c"), ("there", 0, "c")))
        steps = (("c", 0, ("there", 0, "c")),)
        ring = (("a", (0, 5, "a")), ("c", ("before", "a", "c")))
        self.check(latest.is_clash(case, (steps, ring)), True)
        self.check(latest.is_clash(case, ((), ring)), False)
        self.check(latest.is_clash(case, ((("c", 0, ("there", 0, "c")), ("a", 0, (0, 5, "a"))), ring)), True)
        self.check(latest.is_clash(case, (steps, (("a", (0, 5, "a")), ("c", ("there", 0, "c"))))), False)
        self.assertTrue(clash_said(case, latest.a_clash(case)))

    def test_lone_things(self):
        for case in (ONE, TWO, NOTHING):
            for thing in LONE:
                self.check(latest.is_clash(case, thing), False)
                self.check(latest.is_clash(case, ((), thing)), False)
                self.check(latest.is_clash(case, (thing, ())), False)

    def test_spoiled_clashes(self):
        found = [0, 0]
        longer = (FENCE, 2, ((1, 8, "-"),), (("before", "b", "c"), ("there", 0, "c"), ("there", 1, "a")))
        for case in (ONE, BARE, ROUND, WRONG, longer):
            for thing in spoiled(latest.a_clash(case)):
                self.assertIs(latest.is_clash(case, thing), clash_said(case, thing), repr(thing))
                found[clash_said(case, thing)] += 1
        self.assertGreater(min(found), 10)

    def test_all_short_clashes(self):
        """Every tuple of up to two STEPs that can be written, and every end, with what the document says."""
        case = (FENCE[:2], 2, ((0, 5, "a"), (1, 5, "b")), (("before", "b", "a"), ("not", 0, "b"), ("there", 1, "a")))
        reasons = case[2] + case[3]
        steps = list(itertools.product("ab", range(2), reasons))
        rings = list(itertools.product(itertools.product("ab", reasons), repeat=2))
        held = 0
        for many in range(3):
            for row in itertools.product(steps, repeat=many):
                self.assertIs(latest.are_steps(case, row), steps_said(case, row), repr(row))
                if steps_said(case, row):
                    for end in (*reasons, *rings):
                        self.assertIs(latest.is_clash(case, (row, end)), clash_said(case, (row, end)))
                        held += clash_said(case, (row, end))
        self.assertGreater(held, 20)


class Latest(Case):
    def test_latest(self):
        for case, wanted in ((TWO, (("a", 0), ("b", 2), ("c", 1))), (LATE, (("a", 0), ("b", 0), ("c", 2))),
                             (NOTHING, ()), (EMPTY, ()), (NO_PHOTO, (("a", 0), ("b", 0), ("c", 0))),
                             (APART, (("a", 0), ("b", 1), ("z", 1)))):
            self.check_all_ways(latest.latest, wanted, case=case)
            history = latest.latest_history(case)
            self.assertTrue(cases.fits(case, history))
            self.check(tuple([(name, cases.slot_of(history, name)) for name, _ in wanted]), wanted)
            self.check_all_ways(latest.latest_history, history, case=case)
            self.check_all_ways(latest.is_latest_history, True, case=case, thing=history)

    def test_no_history(self):
        for case in (ONE, BARE, ROUND, WRONG):
            self.refused_all_ways("NoHistory", {}, latest.latest, case=case)
            self.refused_all_ways("NoHistory", {}, latest.latest_history, case=case)
            for thing in (None, (), ("a", "b", "c", 0), ["a"]):
                self.refused_all_ways("NoHistory", {}, latest.is_latest_history, case=case, thing=thing)

    def test_is_latest_history(self):
        for thing, wanted in ((("a", 0, "c", 1, "b"), True), (("a", 0, "b", "c", 1), False),
                              (["a", 0, "c", 1, "b"], False), (("a", 0, "c", "b", 1), False),
                              (("a", "b", 0, "c", 1), False), (("a", 0, "c", 1), False),
                              (("a", False, "c", True, "b"), False), (("a", 1, "c", 0, "b"), False), ((), False)):
            self.check_all_ways(latest.is_latest_history, wanted, case=TWO, thing=thing)
        for thing in LONE:
            self.check(latest.is_latest_history(TWO, thing), False)
        self.check(latest.is_latest_history(NOTHING, ()), True)
        self.check(latest.is_latest_history(EMPTY, (0, 1)), True)

    def test_spoiled_histories(self):
        kept = fitting(TWO)
        for thing in spoiled(("a", 0, "c", 1, "b")):
            wanted = any(same(thing, history) for history in kept) and thing[-1] == "b"
            self.assertIs(latest.is_latest_history(TWO, thing), wanted, repr(thing))

    def test_more_photos_than_can_be_walked(self):
        case = (FENCE, FAR ** 2, ((FAR, 5, "a"),), (("there", 3, "a"), ("there", FAR, "b")))
        self.check(latest.is_latest_history(case, ("a", "b", "c")), False)
        self.check(latest.latest(case), (("a", 3), ("b", 3), ("c", FAR ** 2)))
        steps = (("a", 3, ("there", 3, "a")), ("b", FAR, ("there", FAR, "b")), ("b", 3, (FAR, 5, "a")))
        self.check(latest.is_why_there(case, "b", 3, steps), True)
        self.check(latest.is_why_there(case, "b", 2, steps), False)
        self.check(latest.is_clash(case, (steps, (FAR, 5, "a"))), False)


class WhyThere(Case):
    def test_why_there(self):
        for case, name, photo, wanted in ((TWO, "b", 1, False), (TWO, "c", 0, False), (TWO, "c", 1, True),
                                          (TWO, "a", 0, True), (TWO, "a", 1, True), (LATE, "b", 0, True),
                                          (LATE, "c", 1, False), (ONE, "a", 0, True), (ONE, "b", 0, False),
                                          (BARE, "b", 0, True), (BARE, "b", 1, True), (BARE, "a", 1, False)):
            steps = latest.why_there(case, name, photo)
            self.assertIs(steps is not None, wanted)
            self.check_all_ways(latest.why_there, steps, case=case, name=name, photo=photo)
            self.check_all_ways(latest.is_why_there, wanted, case=case, name=name, photo=photo, thing=steps)

    def test_is_why_there(self):
        first, second, third = (("a", 0, ("there", 0, "a")), ("b", 1, ("there", 1, "b")), ("b", 0, (1, 5, "a")))
        for thing, wanted in (((first, second, third), True), ((second, first, third), True), ((first, third), False),
                              ((second, third), False), ((third, first, second), False), ((first, second), False),
                              ((first, first, second, second, third), True), ((first, second, third, first), False),
                              ((first, second, third, second), False), ((), False), ([first, second, third], False),
                              ((first, second, list(third)), False), ((first, second, third[:2]), False),
                              ((first, second, ("b", False, (1, 5, "a"))), False), (third, False),
                              ((first, second, ("b", 0, (True, 5, "a"))), False), ((first, second, third, third), True),
                              ((("a", 1, ("there", 0, "a")), second, third), False), (None, False)):
            self.check_all_ways(latest.is_why_there, wanted, case=LATE, name="b", photo=0, thing=thing)
        self.check(latest.is_why_there(LATE, "b", 1, (first, second)), True)
        self.check(latest.is_why_there(LATE, "b", 1, (first, second, third)), True)
        self.check(latest.is_why_there(LATE, "b", 1, (second,)), True)
        self.check(latest.is_why_there(LATE, "a", 0, (first,)), True)
        self.check(latest.is_why_there(LATE, "a", 1, (("a", 1, ("there", 0, "a")),)), True)
        self.check(latest.is_why_there(LATE, "a", 1, (("a", 2, ("there", 0, "a")),)), False)

    def test_no_name_comes_first(self):
        for case in (TWO, ONE, NOTHING, NO_PHOTO):
            for name, photo in (("d", 0), ("d", 2), ("q", -1), ("ab", FAR)):
                self.refused_all_ways("NoName", {"name": name}, latest.why_there, case=case, name=name, photo=photo)
                for thing in ((), None, 3):
                    self.refused_all_ways("NoName", {"name": name}, latest.is_why_there,
                                          case=case, name=name, photo=photo, thing=thing)

    def test_no_photo(self):
        for case, photo in ((TWO, 2), (TWO, -1), (ONE, 1), (BARE, FAR), (NO_PHOTO, 0), (ROUND, 0)):
            self.refused_all_ways("NoPhoto", {"photo": photo}, latest.why_there, case=case, name="b", photo=photo)
            for thing in ((), None, ["b"]):
                self.refused_all_ways("NoPhoto", {"photo": photo}, latest.is_why_there,
                                      case=case, name="b", photo=photo, thing=thing)

    def test_lone_things(self):
        for thing in LONE:
            self.check(latest.is_why_there(TWO, "c", 1, thing), False)
            self.check(latest.is_why_there(TWO, "c", 1, (thing,)), False)
            self.check(latest.is_why_there(TWO, "c", 1, (("c", 1, thing),)), False)

    def test_spoiled_steps(self):
        found = [0, 0]
        for case, name, photo in ((LATE, "b", 0), (TWO, "c", 1), (BARE, "b", 1)):
            for thing in spoiled(latest.why_there(case, name, photo)):
                wanted = steps_said(case, thing) and thing != () and thing[-1][0] == name and thing[-1][1] <= photo
                self.assertIs(latest.is_why_there(case, name, photo, thing), wanted, repr(thing))
                found[wanted] += 1
        self.assertGreater(min(found), 5)


class AllSmallHistories(Case):
    def test_against_all_histories(self):
        found = [0, 0]
        for case in small_cases(5, 600):
            known = [bill[0] for bill in case[0]]
            kept = fitting(case)
            found[bool(kept)] += 1
            self.check(latest.can_fit(case), bool(kept))
            if kept:
                self.check_latest(case, known, kept)
            else:
                self.check_clash(case)
        self.assertGreater(min(found), 100)

    def check_latest(self, case, known, kept):
        slots = tuple([(name, max(cases.slot_of(history, name) for history in kept)) for name in known])
        self.check(latest.latest(case), slots)
        self.assertIn(latest.latest_history(case), kept)
        for history in histories(known, case[1]):
            wanted = history in kept and all(cases.slot_of(history, name) == slot for name, slot in slots)
            self.check(latest.is_latest_history(case, history), wanted)
        for (name, slot), photo in itertools.product(slots, range(case[1])):
            steps = latest.why_there(case, name, photo)
            self.assertIs(steps is not None, slot <= photo)
            self.check(latest.is_why_there(case, name, photo, steps), slot <= photo)
            self.assertTrue(steps is None or steps_said(case, steps))
        self.check(latest.a_clash(case), None)

    def check_clash(self, case):
        found = latest.a_clash(case)
        self.check(latest.is_clash(case, found), True)
        self.assertTrue(clash_said(case, found), repr(case))

    def test_at_the_bounds(self):
        case, history = great_case()
        self.assertTrue(cases.fits(case, history))
        self.check(latest.can_fit(case), True)
        found = latest.latest_history(case)
        self.assertTrue(cases.fits(case, found))
        self.check(latest.is_latest_history(case, found), True)
        for name, slot in latest.latest(case):
            self.assertGreaterEqual(slot, cases.slot_of(history, name))
            for photo in range(8):
                steps = latest.why_there(case, name, photo)
                self.assertTrue(slot > photo if steps is None else steps_said(case, steps) and slot <= photo)
        _, one, other = case[3][0]
        wrong = cases.with_fact(case, ("before", other, one))
        self.check(latest.can_fit(wrong), False)
        self.assertTrue(clash_said(wrong, latest.a_clash(wrong)))
        self.check(latest.is_clash(wrong, latest.a_clash(wrong)), True)


if __name__ == "__main__":
    unittest.main()
