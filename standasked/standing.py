"""Where threads stand while a stop holds, and for what they wait."""

from standasked.errors import NoPlace, NoState
from standasked.programs import check_program, check_starts, check_thread
from standasked.states import (
    TAKING_WORDS, check_state, explored, instruction_of, is_done, is_frame, is_outside, is_standing,
    stop_holds, way_to,
)
from standasked.stops import is_stuck
from standasked.values import is_between


def standing_at(program, state):
    """The list of (thread, function, place, locks) of a state, [] if no stop holds."""
    if not stop_holds(program, state):
        return []
    found = []
    for thread, stack in enumerate(state[0]):
        if stack and thread != state[4]:
            function, place = stack[-1]
            found.append((thread, function, place, locks_of(state, thread)))
    return found


def locks_of(state, thread):
    return tuple([lock for lock, holder in enumerate(state[2]) if holder == thread])


def standing(program, starts):
    check_program(program)
    check_starts(program, starts)
    found = set()
    for state in explored(program, starts).states:
        for one in standing_at(program, state):
            found.add(one)
    return sorted(found)


def check_standing_place(program, function, place, locks):
    if not is_frame(program, (function, place)):
        raise NoPlace("this is no place of a function")
    if not isinstance(locks, tuple):
        raise NoPlace("locks are a tuple")
    least = 0
    for lock in locks:
        if not is_between(lock, least, program[0] - 1):
            raise NoPlace("locks are an ascending tuple of different locks")
        least = lock + 1


def stand_schedule(program, starts, thread, function, place, locks):
    check_program(program)
    check_starts(program, starts)
    check_thread(starts, thread)
    check_standing_place(program, function, place, locks)
    runs = explored(program, starts)
    for at, state in enumerate(runs.states):
        if (thread, function, place, locks) in standing_at(program, state):
            return way_to(runs, at)
    return None


def waits_at(program, state):
    """The ascending list of (thread, lock, other) of a state."""
    found = []
    for thread in range(len(state[0])):
        if is_done(state, thread) or is_outside(state, thread):
            continue
        instruction = instruction_of(program, state, thread)
        if instruction is None or instruction[0] not in TAKING_WORDS:
            continue
        lock = instruction[1]
        if state[2][lock] is not None:
            found.append((thread, lock, state[2][lock]))
    return found


def waits_for(program, starts, state):
    check_program(program)
    check_starts(program, starts)
    check_state(program, starts, state)
    return waits_at(program, state)


def is_caught(program, state, thread):
    """Whether a thread neither stands nor waits for its stop to hold."""
    if thread == state[4]:
        return stop_holds(program, state)
    return not is_standing(program, state, thread)


def chain_from(waits, thread):
    """The triples from a thread on, up to a thread that has none or had its one."""
    found = []
    while thread in waits and waits[thread] not in found:
        found.append(waits[thread])
        thread = waits[thread][2]
    return found


def chain(program, starts, state):
    check_program(program)
    check_starts(program, starts)
    check_state(program, starts, state)
    if not is_stuck(program, state):
        raise NoState("this state is not stuck")
    if is_done(state, state[4]):
        return []
    waits = {one[0]: one for one in waits_at(program, state) if is_caught(program, state, one[0])}
    return min([chain_from(waits, thread) for thread in waits], key=len)
