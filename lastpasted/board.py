"""A board: a CASE that deeds change, of which some HISTORY always fits."""

from lastpasted.bills import names, need_names, with_bill
from lastpasted.cases import with_fact, with_photo, with_telling
from lastpasted.errors import NothingDone
from lastpasted.sure import need_history


class Board:
    """A CASE, at first one without anything, and those that it was ahead of each deed."""

    def __init__(self):
        self._now = ((), 0, (), ())
        self._past = []

    def __len__(self):
        return len(self._now[0])

    def __contains__(self, name):
        return name in names(self._now[0])

    def __eq__(self, other):
        return isinstance(other, Board) and self._now == other._now

    def case(self):
        return self._now

    def told_of(self, name):
        need_names(self._now[0], (name,))
        return tuple([telling for telling in self._now[2] if telling[2] == name])

    def paste(self, name, first, last):
        fence, photos, told, facts = self._now
        self._turn_to((with_bill(fence, (name, first, last)), photos, told, facts))

    def snap(self):
        self._turn_to(with_photo(self._now))
        return self._now[1] - 1

    def tell(self, photo, cell, seen):
        self._turn_to(with_telling(self._now, photo, cell, seen))

    def know(self, fact):
        self._turn_to(with_fact(self._now, fact))

    def undo(self):
        if not self._past:
            raise NothingDone()
        self._now = self._past.pop()

    def deeds(self):
        return len(self._past)

    def twin(self):
        board = Board()
        board._now = self._now
        board._past = list(self._past)
        return board

    def _turn_to(self, case):
        need_history(case)
        self._past.append(self._now)
        self._now = case
