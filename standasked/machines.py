"""Machines, which execute threads move by move."""

from standasked.errors import NoMove, NoNumber
from standasked.programs import check_program, check_starts, check_thread
from standasked.states import is_done, is_standing, starting_state, steps_of_thread, stop_holds
from standasked.values import is_between, is_integer


class Machine:
    def __init__(self, program, starts):
        check_program(program)
        check_starts(program, starts)
        self._program = program
        self._starts = starts
        self._state = starting_state(program, starts)
        self._moves = []
        # The (lateness, pause) of the stop that is requested, None without one.
        self._sums = None
        self._ended = []
        # For each mark the state, the sums, and how many moves and stops there were.
        self._marks = []

    def step(self, thread, bit):
        check_thread(self._starts, thread)
        if not is_between(bit, 0, 1):
            raise NoNumber("a bit is 0 or 1")
        found = steps_of_thread(self._program, self._state, thread)
        if bit >= len(found):
            raise NoMove("there is no such move")
        move, weight, after = found[bit]
        self._add_to_sums(thread, weight)
        self._begin_or_end(after)
        self._moves.append(move)
        self._state = after

    def _add_to_sums(self, thread, weight):
        """Add the weight of a move, if it counts."""
        if self._sums is None or is_standing(self._program, self._state, thread):
            return
        late, whole = self._sums
        if not stop_holds(self._program, self._state):
            late += weight
        self._sums = (late, whole + weight)

    def _begin_or_end(self, after):
        """Begin the sums of a stop that a move requests, end those of one that it ends."""
        if after[4] is None and self._sums is not None:
            self._ended.append(self._sums)
            self._sums = None
        elif after[4] is not None and self._sums is None:
            self._sums = (0, 0)

    def stands(self, thread):
        check_thread(self._starts, thread)
        if is_done(self._state, thread):
            return "done"
        if is_standing(self._program, self._state, thread):
            return "stands"
        if steps_of_thread(self._program, self._state, thread):
            return "moves"
        return "waits"

    def asker(self):
        return self._state[4]

    def lateness(self):
        return None if self._sums is None else self._sums[0]

    def pause(self):
        return None if self._sums is None else self._sums[1]

    def state(self):
        return self._state

    def schedule(self):
        return list(self._moves)

    def stops(self):
        return list(self._ended)

    def mark(self):
        self._marks.append((self._state, self._sums, len(self._moves), len(self._ended)))
        return len(self._marks) - 1

    def back(self, number):
        # There may be more marks than a NUMBER can tell.
        if not is_integer(number) or not 0 <= number < len(self._marks):
            raise NoNumber("there is no such mark")
        self._state, self._sums, moves, ended = self._marks[number]
        self._moves = self._moves[:moves]
        self._ended = self._ended[:ended]
        self._marks = self._marks[:number + 1]
