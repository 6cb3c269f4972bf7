"""Boards: deeds done and refused, undone, twins, beside a model of them, and at the bounds."""

import random
import unittest

from lastpasted import cases, latest
from lastpasted.board import Board
from tests.support import FAR, Case, as_lists

FENCE = (("a", 1, 6), ("b", 4, 9))


class Anything:
    """Says that it equals all there is."""

    def __eq__(self, other):
        return True


def made():
    board = Board()
    board.paste("a", 1, 6)
    board.paste("b", 4, 9)
    board.snap()
    board.tell(0, 5, "b")
    board.know(("there", 0, "a"))
    return board


MADE = (FENCE, 1, ((0, 5, "b"),), (("there", 0, "a"),))


class Boards(Case):
    def kept(self, board, case, deeds):
        self.check(board.case(), case)
        self.check(board.deeds(), deeds)

    def test_new(self):
        board = Board()
        self.kept(board, ((), 0, (), ()), 0)
        self.check(len(board), 0)
        self.check("a" in board, False)
        self.refused("NothingDone", {}, board.undo)
        self.refused("NoName", {"name": "a"}, board.told_of, "a")
        self.kept(board, ((), 0, (), ()), 0)

    def test_deeds(self):
        board = Board()
        self.check(board.paste("b", 4, 9), None)
        self.kept(board, ((("b", 4, 9),), 0, (), ()), 1)
        self.check(board.paste(last=6, first=1, name="a"), None)
        self.kept(board, (FENCE, 0, (), ()), 2)
        self.check(board.snap(), 0)
        self.check(board.snap(), 1)
        self.kept(board, (FENCE, 2, (), ()), 4)
        self.check(board.tell(1, 5, "b"), None)
        self.check(board.tell(seen="-", photo=0, cell=2), None)
        self.kept(board, (FENCE, 2, ((0, 2, "-"), (1, 5, "b")), ()), 6)
        self.check(board.know(("there", 1, "a")), None)
        self.check(board.know(fact=["before", "a", "b"]), None)
        self.kept(board, (FENCE, 2, ((0, 2, "-"), (1, 5, "b")), (("before", "a", "b"), ("there", 1, "a"))), 8)
        self.check(board.undo(), None)
        self.kept(board, (FENCE, 2, ((0, 2, "-"), (1, 5, "b")), (("there", 1, "a"),)), 7)

    def test_len_in_and_told_of(self):
        board = made()
        self.check(len(board), 2)
        for name, wanted in (("a", True), ("b", True), ("c", False), ("ab", False), ("-", False)):
            self.check(name in board, wanted)
        board.tell(0, 1, "a")
        board.tell(0, 8, "b")
        board.tell(0, 99, "-")
        self.check(board.told_of("b"), ((0, 5, "b"), (0, 8, "b")))
        self.check(board.told_of(name="a"), ((0, 1, "a"),))
        board.paste("c", 0, 0)
        self.check(board.told_of("c"), ())
        self.refused("NoName", {"name": "d"}, board.told_of, "d")
        self.refused("NoName", {"name": "-"}, board.told_of, "-")

    def test_no_iteration(self):
        for board in (Board(), made()):
            for call in (iter, list, tuple, sorted):
                with self.assertRaises(TypeError):
                    call(board)
            with self.assertRaises(TypeError):
                for _ in board:
                    pass

    def test_equal(self):
        self.assertTrue(made() == made())
        self.assertFalse(made() != made())
        self.assertTrue(made() != Board())
        self.assertFalse(made() == Board())
        other = Board()
        for step in (lambda: other.snap(), lambda: other.paste("b", 4, 9), lambda: other.paste("a", 1, 6),
                     lambda: other.know(("there", 0, "a")), lambda: other.tell(0, 5, "b")):
            self.assertFalse(other == made())
            step()
        other.tell(0, 5, "b")
        # Deeds do not count, what they led to does.
        self.assertTrue(other == made())
        self.assertFalse(other != made())
        for thing in (None, 0, True, (), MADE, list(MADE), "board", [made()], object(), Anything()):
            self.assertFalse(made().__eq__(thing))
        for thing in (None, 0, True, (), MADE, list(MADE), "board", [made()], object()):
            self.assertFalse(made() == thing)
            self.assertFalse(thing == made())
            self.assertTrue(made() != thing)

    def test_undo_to_the_beginning(self):
        board = made()
        ahead = [((), 0, (), ()), (FENCE[:1], 0, (), ()), (FENCE, 0, (), ()), (FENCE, 1, (), ()),
                 (FENCE, 1, MADE[2], ())]
        for deeds, case in reversed(list(enumerate(ahead))):
            board.undo()
            self.kept(board, case, deeds)
        for _ in range(2):
            self.refused("NothingDone", {}, board.undo)
            self.kept(board, ahead[0], 0)
        self.check(board.snap(), 0)
        self.kept(board, ((), 1, (), ()), 1)

    def test_what_changes_nothing_is_a_deed(self):
        board = made()
        board.tell(0, 5, "b")
        board.know(("there", 0, "a"))
        self.kept(board, MADE, 7)
        board.undo()
        board.undo()
        self.kept(board, MADE, 5)
        board.undo()
        self.kept(board, MADE[:3] + ((),), 4)

    def test_twins(self):
        board = made()
        twin = board.twin()
        self.assertIs(type(twin), Board)
        self.assertIsNot(twin, board)
        self.assertTrue(twin == board)
        self.kept(twin, MADE, 5)
        twin.undo()
        board.snap()
        self.kept(twin, MADE[:3] + ((),), 4)
        self.kept(board, (FENCE, 2) + MADE[2:], 6)
        for _ in range(4):
            twin.undo()
        self.refused("NothingDone", {}, twin.undo)
        self.kept(board, (FENCE, 2) + MADE[2:], 6)
        twin.paste("z", 0, 0)
        later = twin.twin()
        for _ in range(6):
            board.undo()
        self.refused("NothingDone", {}, board.undo)
        self.kept(later, ((("z", 0, 0),), 0, (), ()), 1)
        self.kept(Board().twin(), ((), 0, (), ()), 0)

    def test_what_is_handed_out_is_no_handle(self):
        board = made()
        fact = ["before", "a", "b"]
        board.know(fact)
        fact[0] = "after"
        self.check(board.case()[3], (("before", "a", "b"), ("there", 0, "a")))
        self.check(cases.is_case(board.case()), True)


class Refused(Case):
    def left_as_it_was(self, error_name, fields, board, call, *args, **named):
        case, deeds = board.case(), board.deeds()
        self.refused(error_name, fields, call, *args, **named)
        self.check(board.case(), case)
        self.check(board.deeds(), deeds)

    def test_paste(self):
        board = made()
        self.left_as_it_was("Twice", {"name": "b"}, board, board.paste, "b", 0, 0)
        self.left_as_it_was("Twice", {"name": "a"}, board, board.paste, name="a", first=1, last=6)

    def test_tell(self):
        board = made()
        for photo, cell, seen, error_name, fields in (
                (1, 5, "b", "NoPhoto", {"photo": 1}), (-1, 5, "q", "NoPhoto", {"photo": -1}),
                (FAR, 0, "a", "NoPhoto", {"photo": FAR}),
                (0, 5, "q", "NoName", {"name": "q"}), (0, 9, "a", "NotOver", {"name": "a", "cell": 9}),
                (0, 0, "b", "NotOver", {"name": "b", "cell": 0}), (0, 5, "a", "NoHistory", {}),
                (0, 5, "-", "NoHistory", {}),
                (0, 2, "-", "NoHistory", {}), (0, 6, "a", "NoHistory", {})):
            self.left_as_it_was(error_name, fields, board, board.tell, photo, cell, seen)
            self.left_as_it_was(error_name, fields, board, board.tell, seen=seen, cell=cell, photo=photo)

    def test_know(self):
        board = made()
        for fact, error_name, fields in (
                (("before", "q", "p"), "NoName", {"name": "q"}), (("before", "a", "p"), "NoName", {"name": "p"}),
                (("there", 1, "q"), "NoPhoto", {"photo": 1}), (("not", -1, "a"), "NoPhoto", {"photo": -1}),
                (("not", 0, "q"), "NoName", {"name": "q"}), (("there", 0, "q"), "NoName", {"name": "q"}),
                (("not", 0, "a"), "NoHistory", {}), (("before", "b", "a"), "NoHistory", {}),
                (("not", 0, "b"), "NoHistory", {})):
            self.left_as_it_was(error_name, fields, board, board.know, fact)
            self.left_as_it_was(error_name, fields, board, board.know, fact=as_lists(fact))

    def test_told_of_and_undo(self):
        board = made()
        self.left_as_it_was("NoName", {"name": "q"}, board, board.told_of, "q")
        board = Board()
        self.left_as_it_was("NothingDone", {}, board, board.undo)


class BesideAModel(Case):
    def deed(self, chance, board, case):
        """Some deed, and the CASE that it should lead to, None if it should be refused."""
        fence, photos, told, facts = case
        name, other = chance.sample("abcd", 2)
        photo, cell = chance.randint(0, 2), chance.randint(0, 6)
        known = [bill[0] for bill in fence]
        word = chance.choice(["paste", "snap" if photos < 3 else "tell", "tell", "tell", "know", "know"])
        if word == "paste":
            first, last = sorted([cell, chance.randint(0, 6)])
            after = (tuple(sorted(fence + ((name, first, last),))), photos, told, facts)
            return lambda: board.paste(name, first, last), None if name in known else after
        if word == "snap":
            return board.snap, (fence, photos + 1, told, facts)
        if word == "tell":
            seen = chance.choice([name, "-"])
            lying = ["-"] + [bill[0] for bill in fence if bill[1] <= cell <= bill[2]]
            after = (fence, photos, tuple(sorted(set(told) | {(photo, cell, seen)})), facts)
            right = photo < photos and seen in lying and latest.can_fit(after)
            return lambda: board.tell(photo, cell, seen), after if right else None
        fact = chance.choice([("before", name, other), ("there", photo, name), ("not", photo, name)])
        after = (fence, photos, told, tuple(sorted(set(facts) | {fact})))
        right = name in known and (other in known if fact[0] == "before" else photo < photos)
        return lambda: board.know(fact), after if right and latest.can_fit(after) else None

    def test_many_deeds(self):
        chance = random.Random(51)
        found = [0, 0]
        for _ in range(60):
            board, past = Board(), [((), 0, (), ())]
            for _ in range(60):
                if chance.randrange(6) == 0 and len(past) > 1:
                    board.undo()
                    past.pop()
                else:
                    call, after = self.deed(chance, board, past[-1])
                    found[after is not None] += 1
                    if after is not None:
                        call()
                        past.append(after)
                    else:
                        with self.assertRaises((LookupError, ValueError)):
                            call()
                self.check(board.case(), past[-1])
                self.check(board.deeds(), len(past) - 1)
                self.check(len(board), len(past[-1][0]))
                self.assertTrue(latest.can_fit(board.case()))
        self.assertGreater(min(found), 300)


class Bounds(Case):
    def test_sixty_deeds(self):
        board = Board()
        for at, sign in enumerate("abcdefghijkl"):
            board.paste(sign, -FAR + at, FAR - at)
        for photo in range(8):
            self.check(board.snap(), photo)
        for at in range(20):
            board.tell(at % 8, at, "abcdefghijkl"[at % 8])
        for photo in range(8):
            for name in ("k", "l"):
                board.know(("not", photo, name))
        for name in "abcd":
            board.know(("before", "h", "l") if name == "d" else ("before", name, "h"))
        self.check(board.deeds(), 60)
        twin = board.twin()
        for _ in range(60):
            board.undo()
        self.refused("NothingDone", {}, board.undo)
        self.assertTrue(board == Board())
        self.check(twin.deeds(), 60)


if __name__ == "__main__":
    unittest.main()
