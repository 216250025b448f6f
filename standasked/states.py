"""States of the threads of a program, and the steps between them."""

from standasked.errors import NoState, TooMany
from standasked.programs import check_program, check_starts, instruction_at
from standasked.values import is_between, is_number, is_row

MOST_STATES = 2000

# Where an inside thread stands while another thread's stop is requested.
STANDING_WORDS = ("ask", "stop", "safe take")

# What a thread goes on with while it is outside.
OUTSIDE_WORDS = ("work", "branch", "jump", "call", "ask", "leave")

TAKING_WORDS = ("take", "safe take")


def check_state(program, starts, state):
    if not is_state(program, starts, state):
        raise NoState("this has not the form of a state of these threads")


def is_state(program, starts, thing):
    if not is_row(thing, 5):
        return False
    threads, outs, locks, flags, asker = thing
    many = len(starts)
    if not is_row(threads, many) or not is_row(outs, many):
        return False
    if not is_row(locks, program[0]) or not is_row(flags, program[1]):
        return False
    for start, stack, out in zip(starts, threads, outs):
        if not is_stack(program, start, stack) or not is_between(out, 0, 1):
            return False
        if not stack and out == 1:
            return False
    if not all([is_thread_or_none(one, many) for one in (*locks, asker)]):
        return False
    return all([is_between(flag, 0, 1) for flag in flags])


def is_thread_or_none(thing, many):
    return thing is None or is_between(thing, 0, many - 1)


def is_stack(program, start, thing):
    if not isinstance(thing, tuple):
        return False
    if not all([is_frame(program, frame) for frame in thing]):
        return False
    if thing and thing[0][0] != start:
        return False
    for below, above in zip(thing, thing[1:]):
        if instruction_at(program, below[0], below[1]) != ("call", above[0]):
            return False
    return True


def is_frame(program, thing):
    if not is_row(thing, 2):
        return False
    function, place = thing
    if not is_between(function, 0, len(program[2]) - 1):
        return False
    return is_between(place, 0, len(program[2][function]))


def first_state(program, starts):
    check_program(program)
    check_starts(program, starts)
    return starting_state(program, starts)


def starting_state(program, starts):
    threads = tuple([((function, 0),) for function in starts])
    locks, flags, _ = program
    return threads, (0,) * len(starts), (None,) * locks, (0,) * flags, None


def is_done(state, thread):
    return not state[0][thread]


def is_outside(state, thread):
    return state[1][thread] == 1


def instruction_of(program, state, thread):
    """What a thread that is not done is at, None at a function's end."""
    function, place = state[0][thread][-1]
    return instruction_at(program, function, place)


def is_asked_by_other(state, thread):
    asker = state[4]
    return asker is not None and asker != thread


def is_standing(program, state, thread):
    """Whether the thread stands, for another thread's stop."""
    if not is_asked_by_other(state, thread):
        return False
    if is_done(state, thread) or is_outside(state, thread):
        return True
    instruction = instruction_of(program, state, thread)
    return instruction is not None and instruction[0] in STANDING_WORDS


def stop_holds(program, state):
    asker = state[4]
    if asker is None:
        return False
    others = [thread for thread in range(len(state[0])) if thread != asker]
    return all([is_standing(program, state, thread) for thread in others])


def may_go_on(program, state, thread):
    """Whether nothing but what the thread is at could keep it from a step."""
    if is_done(state, thread):
        return False
    if state[4] == thread:
        return stop_holds(program, state)
    return is_outside(state, thread) or not is_standing(program, state, thread)


def put(row, at, worth):
    return row[:at] + (worth,) + row[at + 1:]


def steps_of_thread(program, state, thread):
    """The ascending list of all steps of one thread."""
    if not may_go_on(program, state, thread):
        return []
    instruction = instruction_of(program, state, thread)
    if instruction is None:
        return [((thread, 0), 1, state_after_end(state, thread))]
    if is_outside(state, thread) and instruction[0] not in OUTSIDE_WORDS:
        return steps_back(state, thread)
    if instruction[0] in TAKING_WORDS and state[2][instruction[1]] is not None:
        return []
    weight = instruction[1] if instruction[0] == "work" else 1
    threads, outs, locks, flags, asker = state_after_deed(state, thread, instruction)
    found = []
    for bit, stack in enumerate(stacks_after(flags, instruction, threads[thread])):
        after = (put(threads, thread, stack), outs, locks, flags, asker)
        found.append(((thread, bit), weight, after))
    return found


def state_after_end(state, thread):
    threads, outs, locks, flags, asker = state
    below = threads[thread][:-1]
    if below:
        function, place = below[-1]
        stack = below[:-1] + ((function, place + 1),)
        return put(threads, thread, stack), outs, locks, flags, asker
    # A thread that is done is not outside, wherever it was before.
    return put(threads, thread, ()), put(outs, thread, 0), locks, flags, asker


def steps_back(state, thread):
    """The step by which an outside thread comes back, if it can."""
    if is_asked_by_other(state, thread):
        return []
    threads, outs, locks, flags, asker = state
    return [((thread, 0), 1, (threads, put(outs, thread, 0), locks, flags, asker))]


def state_after_deed(state, thread, instruction):
    """The state with all that the instruction does, but to the stack."""
    threads, outs, locks, flags, asker = state
    word = instruction[0]
    if word in TAKING_WORDS:
        locks = put(locks, instruction[1], thread)
    elif word == "free" and locks[instruction[1]] == thread:
        locks = put(locks, instruction[1], None)
    elif word == "raise":
        flags = put(flags, instruction[1], 1)
    elif word == "lower":
        flags = put(flags, instruction[1], 0)
    elif word == "leave":
        outs = put(outs, thread, 1)
    elif word == "stop":
        asker = thread
    elif word == "go" and asker == thread:
        asker = None
    return threads, outs, locks, flags, asker


def stacks_after(flags, instruction, stack):
    """The stacks that the instruction leads to, in the order of the bits."""
    if instruction[0] == "call":
        return [stack + ((instruction[1], 0),)]
    function, place = stack[-1]
    places = places_after(flags, instruction, place)
    return [stack[:-1] + ((function, at),) for at in places]


def places_after(flags, instruction, place):
    word = instruction[0]
    if word == "branch":
        return [place + 1, instruction[1]]
    if word == "jump":
        return [instruction[1]]
    if word == "if" and flags[instruction[1]] == 1:
        return [instruction[2]]
    return [place + 1]


def steps_from(program, state):
    """The ascending list of (move, weight, state after it)."""
    found = []
    for thread in range(len(state[0])):
        found.extend(steps_of_thread(program, state, thread))
    return found


def steps(program, starts, state):
    check_program(program)
    check_starts(program, starts)
    check_state(program, starts, state)
    return steps_from(program, state)


class Runs:
    """All states that some schedule leads to, by their numbers: 0 is the first
    state, and no number is smaller than that of a state with fewer moves."""

    def __init__(self, first):
        self.states = [first]
        self.numbers = {first: 0}
        # For each state the list of (move, weight, number of the state after it).
        self.steps = []
        # For each state the last (number of the state before it, move) of a
        # schedule with the fewest moves.
        self.ways = [None]


def explored(program, starts):
    runs = Runs(starting_state(program, starts))
    while len(runs.steps) < len(runs.states):
        add_steps(program, runs, len(runs.steps))
        if len(runs.states) > MOST_STATES:
            raise TooMany("there are more than 2000 states")
    return runs


def add_steps(program, runs, at):
    """Put the steps from a state into runs, and the states that are new there."""
    found = steps_from(program, runs.states[at])
    numbered = []
    for move, weight, after in found:
        if after not in runs.numbers:
            runs.numbers[after] = len(runs.states)
            runs.states.append(after)
            runs.ways.append((at, move))
        numbered.append((move, weight, runs.numbers[after]))
    runs.steps.append(numbered)


def way_to(runs, at):
    """A schedule with the fewest moves to a state."""
    moves = []
    while runs.ways[at] is not None:
        at, move = runs.ways[at]
        moves.append(move)
    return moves[::-1]


def all_states(program, starts):
    check_program(program)
    check_starts(program, starts)
    runs = explored(program, starts)
    found = {}
    for state, way in zip(runs.states, runs.ways):
        found[state] = 0 if way is None else found[runs.states[way[0]]] + 1
    return found


def are_all_states(program, starts, thing):
    if thing != all_states(program, starts):
        return False
    # Equal keys and values may still have booleans for numbers.
    return all([is_plain(state) and is_number(least) for state, least in thing.items()])


def is_plain(thing):
    """Whether this is made of numbers, None and tuples alone."""
    if isinstance(thing, tuple):
        return all([is_plain(one) for one in thing])
    return thing is None or is_number(thing)
