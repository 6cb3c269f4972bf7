"""What several points promise together."""

import itertools
import random
import unittest

from lastpasted import (
    bills, board, cases, column, desk, hands, latest, looks, pairs, shown, stacks, sure, texts, wrong,
)
from tests.support import Case, histories, small_cases, small_fence, top_said


def one_photo(fence, sights, rows=()):
    """The CASE of one PHOTO, taken when all BILLs were pasted, the rows each in its order, that tells these SIGHTS."""
    told = [(0, cell, seen) for cell, seen in sights]
    facts = [("there", 0, bill[0]) for bill in fence]
    facts += [("before", one, other) for row in rows for one, other in zip(row, row[1:])]
    return (fence, 1, tuple(sorted(told)), tuple(sorted(facts)))


def some_fences(seed, many):
    """Small FENCEs with some SIGHTS each."""
    chance = random.Random(seed)
    for at in range(many):
        fence = small_fence(chance, "abcd"[:at % 5])
        every = [(cell, name) for cell in range(7) for name in bills.over(fence, cell)]
        yield chance, fence, tuple(sorted(chance.sample(every, min(len(every), chance.randint(0, 4)))))


class CasesAndTexts(Case):
    def test_a_case_its_histories_and_its_texts(self):
        found = [0, 0]
        for case in small_cases(81, 200):
            again = texts.case_read(texts.case_text(case))
            self.check(again, case)
            self.check(latest.can_fit(again), latest.can_fit(case))
            found[latest.can_fit(case)] += 1
            if latest.can_fit(case):
                history = latest.latest_history(again)
                written = texts.history_read(texts.history_text(history))
                self.check(cases.is_history(case[0], case[1], written), True)
                self.check(cases.fits(case, written), True)
                self.check(cases.wrong_in(case, written), ((), ()))
                self.check([cases.slot_of(written, name) for name in bills.names(case[0])],
                           [slot for _, slot in latest.latest(case)])
            else:
                self.check(latest.is_clash(again, latest.a_clash(case)), True)
        self.assertGreater(min(found), 40)

    def test_what_was_photographed(self):
        chance = random.Random(82)
        for at in range(60):
            fence = small_fence(chance, "abc"[:at % 4])
            history = chance.choice(list(histories(bills.names(fence), chance.randint(0, 2))))
            case = cases.photographed(fence, history)
            self.check(cases.is_case(case), True)
            self.check(cases.fits(case, history), True)
            self.check(wrong.fewest_wrong(case), 0)
            for photo in range(case[1]):
                self.check(sure.sure_look(case, photo), cases.seen_on(fence, history, photo))


class Deeds(Case):
    def test_a_case_told_in_any_order(self):
        found = 0
        for at, case in enumerate(small_cases(83, 150)):
            chance = random.Random(at)
            if not latest.can_fit(case):
                continue
            found += 1
            boards = []
            for _ in range(3):
                led = board.Board()
                deeds = [lambda bill=bill: led.paste(*bill) for bill in case[0]] + [led.snap] * case[1]
                chance.shuffle(deeds)
                told = [lambda telling=telling: led.tell(*telling) for telling in case[2]]
                told += [lambda fact=fact: led.know(fact) for fact in case[3]]
                chance.shuffle(told)
                for deed in deeds + told:
                    deed()
                self.check(led.case(), case)
                boards.append(led)
            self.assertTrue(boards[0] == boards[1] == boards[2])
            self.check_desk(case)
        self.assertGreater(found, 40)

    def check_desk(self, case):
        lines = [f"paste {texts.fence_text((bill,))}" for bill in case[0]] + ["photo"] * case[1]
        lines += [f"tell {texts.told_text((telling,))}" for telling in case[2]]
        lines += [f"know {texts.facts_text((fact,))}" for fact in case[3]] + ["case"]
        self.check(texts.case_read(desk.replies("\n".join(lines))[-1].replace(" / ", "\n")), case)


class Cores(Case):
    def test_a_core_its_clash_and_the_case_without_one_of_it(self):
        found = 0
        for case in small_cases(84, 400):
            if not latest.can_fit((case[0], case[1], (), case[3])) or latest.can_fit(case):
                continue
            found += 1
            core = wrong.a_core(case)
            alone = (case[0], case[1], core, case[3])
            clash = latest.a_clash(alone)
            self.check(latest.is_clash(alone, clash), True)
            self.check(latest.is_clash(case, clash), True)
            for telling in core:
                self.check(latest.can_fit(wrong.left_out(alone, (telling,))), True)
                less = wrong.left_out(case, (telling,))
                self.check(wrong.all_cores(less), [other for other in wrong.all_cores(case) if telling not in other])
                if latest.can_fit(less):
                    self.check(wrong.fewest_wrong(case), 1)
            self.check(latest.can_fit(wrong.left_out(case, wrong.least_wrong(case))), True)
            self.check(latest.can_fit(wrong.left_out(case, wrong.suspects(case))), True)
        self.assertGreater(found, 40)


class OnePhoto(Case):
    def test_columns_whose_bills_do_not_go_over_the_end(self):
        found = [0, 0]
        for _, fence, sights in some_fences(85, 250):
            case = one_photo(fence, sights)
            held = latest.can_fit(case)
            found[held] += 1
            self.check(column.is_column(7, fence), True)
            self.check(column.can_hold_round(7, fence, sights), held)
            self.check(column.a_round(7, fence, sights), None)
            self.check(column.clashing_sights(7, fence, sights) == (), held)
            self.check(column.meet_round(7, fence), bills.meeting(fence))
            self.check(column.how_many_round_stacks(7, fence), stacks.how_many_stacks(fence))
            if held:
                self.check(cases.fits(case, column.round_order(7, fence, sights) + (0,)), True)
                above = [pair[::-1] for pair in sure.sure_order(case)]
                self.check(column.surely_above(7, fence, sights), tuple(sorted(above)))
            for cell in range(7) if held else ():
                self.check(column.over_round(7, fence, cell), bills.over(fence, cell))
                self.check(column.round_answers(7, fence, sights, cell), sure.answers(case, 0, cell))
        self.assertGreater(min(found), 40)

    def test_hands(self):
        found = [0, 0]
        for chance, fence, sights in some_fences(86, 350):
            known = list(bills.names(fence))
            chance.shuffle(known)
            cut = chance.randint(0, len(known))
            rows = (tuple(known[:cut]), tuple(known[cut:]))
            case = one_photo(fence, sights, rows)
            held = latest.can_fit(case)
            found[held] += 1
            self.check(hands.can_weave(fence, rows, sights), held)
            self.check(hands.a_knot(fence, rows, sights) is None, latest.a_clash(case) is None)
            for weaving in itertools.permutations(known):
                self.check(hands.is_weaving(fence, rows, sights, weaving), cases.fits(case, weaving + (0,)))
            if held:
                self.check(hands.surely_ahead(fence, rows, sights), sure.sure_order(case))
                for cell in range(-1, 8):
                    self.check(hands.weave_answers(fence, rows, sights, cell), sure.answers(case, 0, cell))
        self.assertGreater(min(found), 80)

    def test_hands_of_one_bill_each_know_no_more_than_the_fence(self):
        for _, fence, sights in some_fences(87, 100):
            rows = tuple([(name,) for name in bills.names(fence)])
            self.check(hands.can_weave(fence, rows, sights), pairs.hold_together(fence, sights))
            if sights == ():
                self.check(hands.how_many_weave(fence, rows, ()), len(list(itertools.permutations(fence))))
            if pairs.hold_together(fence, sights):
                self.check(hands.surely_ahead(fence, rows, sights), pairs.surely_below(fence, sights))
                stack = stacks.stack_of(fence, pairs.order_for(fence, sights))
                top = tuple([(piece[0], stacks.on_top(fence, stack, piece[0])) for piece in bills.pieces(fence)])
                self.check(hands.can_weave(fence, rows, top), True)
                self.assertGreaterEqual(hands.how_many_weave(fence, rows, top), stacks.how_many_orders(fence, stack))


class WhoIsSeen(Case):
    def test_who_is_seen_beside_the_looks(self):
        for _, fence, _ in some_fences(88, 80):
            every = [looks.nth_look(fence, number) for number in range(looks.how_many_looks(fence))]
            just = sorted({tuple(sorted(set(look))) for look in every})
            self.check(shown.all_just(fence), just)
            self.check([name for name, many in looks.how_many_show(fence) if many == len(every)],
                       list(shown.surely_seen(fence)))
            for those in itertools.chain(*[itertools.combinations(bills.names(fence), size) for size in range(5)]):
                self.check(shown.may_hide(fence, those), looks.how_many_with(fence, (), those) > 0)
                self.check(shown.may_show(fence, those), any(set(those) <= set(row) for row in just))
                order = shown.showing_order(fence, those)
                if order is not None:
                    tops = {top_said(fence, order, cell) for cell in range(7)}
                    self.assertLessEqual(set(those), tops)
                    self.check(looks.is_look(fence, looks.look_of(fence, order)), True)


if __name__ == "__main__":
    unittest.main()
