"""Plans: programs of which some askings are kept, and others left out."""

from standasked.askings import check_limit, is_limit_kept, may_go
from standasked.errors import NoKept, NoMove
from standasked.programs import askings, check_starts, is_choice, without
from standasked.stops import judge


class Plan:
    def __init__(self, program, starts):
        known = askings(program)
        check_starts(program, starts)
        self._program = program
        self._starts = starts
        # The askings that are kept, ascending.
        self._kept = known
        self._deeds = []

    def keep(self, asking):
        left = [one for one in askings(self._program) if one not in self._kept]
        if not is_choice([asking], left):
            raise NoKept("this is no asking that is not kept")
        self._put_in(asking)
        self._deeds.append(("keep", asking))

    def leave(self, asking):
        if not is_choice([asking], self._kept):
            raise NoKept("this is no asking that is kept")
        self._take_out(asking)
        self._deeds.append(("leave", asking))

    def undo(self):
        if not self._deeds:
            raise NoMove("there is nothing to undo")
        word, asking = self._deeds.pop()
        if word == "keep":
            self._take_out(asking)
        else:
            self._put_in(asking)

    def _put_in(self, asking):
        self._kept = sorted(self._kept + [asking])

    def _take_out(self, asking):
        self._kept = [one for one in self._kept if one != asking]

    def kept(self):
        return list(self._kept)

    def as_program(self):
        return without(self._program, self._kept)

    def told(self):
        return judge(self.as_program(), self._starts)

    def keeps(self, limit):
        check_limit(limit)
        return is_limit_kept(self.told(), limit)

    def spare(self, limit):
        # The askings of this program are just the kept ones.
        return may_go(self.as_program(), self._starts, limit)

    def deeds(self):
        return list(self._deeds)

    def __eq__(self, other):
        return (
            isinstance(other, Plan)
            and self._program == other._program
            and self._starts == other._starts
            and self._kept == other._kept
        )
