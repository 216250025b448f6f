"""What is told of stops once more, by trying all, apart from the package: with
the moves of tests.reference alone."""

from tests.reference import holds, moved, reference_steps, stands, world_of


class TooLong(Exception):
    """There is more than a test is to try."""


def first_of(program, starts):
    locks, flags, _ = program
    threads = tuple([((function, 0),) for function in starts])
    return (threads, (0,) * len(starts), (None,) * locks, (0,) * flags, None)


def distances_of(program, first, most=5000):
    """The least number of moves to each state, layer by layer."""
    distances = {first: 0}
    layer = [first]
    while layer:
        fresh = []
        for state in layer:
            for _, _, after in reference_steps(program, state):
                if after not in distances:
                    distances[after] = distances[state] + 1
                    fresh.append(after)
        if len(distances) > most:
            raise TooLong
        layer = fresh
    return distances


def is_holding(program, state):
    return state[4] is not None and holds(program, world_of(state))


def counts(program, state, thread):
    """Whether a move of the thread counts."""
    if state[4] is None:
        return False
    return thread == state[4] or not stands(program, world_of(state), thread)


def counting_steps(program, state):
    return [step for step in reference_steps(program, state)
            if counts(program, state, step[0][0])]


def is_stuck(program, state):
    return state[4] is not None and not counting_steps(program, state)


def has_ring(program, state):
    """Whether moves that count lead from the state back to it."""
    met = set()
    layer = [state] if state[4] is not None else []
    while layer:
        for step in counting_steps(program, layer.pop()):
            if step[2] == state:
                return True
            if step[2] not in met:
                met.add(step[2])
                layer.append(step[2])
    return False


class Story:
    """What a schedule tells of its stops, told move by move."""

    def __init__(self, program, starts, moves=()):
        self.program = program
        self.states = [first_of(program, starts)]
        self.sums = None  # of the present stop: lateness, pause, the threads' shares
        self.place = None  # where it was requested
        self.ended = []  # the (lateness, pause) of all stops that have ended
        for move in moves:
            self.move(move)

    def move(self, move):
        state = self.states[-1]
        weight, after = moved(self.program, state, *move)
        self.sums, self.place, end = told_after(
            self.program, state, move, weight, after, self.sums, self.place)
        if end is not None:
            self.ended.append(end)
        self.states.append(after)


def told_after(program, state, move, weight, after, sums, place):
    """The sums and the place of the stop after a move, and what it ended with."""
    if state[4] is None and after[4] is not None:
        return (0, 0, (0,) * len(state[0])), state[0][move[0]][-1], None
    if sums is not None and counts(program, state, move[0]):
        late, whole, shares = sums
        if not is_holding(program, state):
            late += weight
            shares = tuple([share + weight * (thread == move[0])
                            for thread, share in enumerate(shares)])
        sums = (late, whole + weight, shares)
    if sums is not None and after[4] is None:
        return None, None, sums[:2]
    return sums, place, None


def all_told(program, starts, most=3000):
    """All (sums, place) of all schedules, and all (place, lateness, pause) of all
    stops that end: schedules with the same state and sums are gone on with once."""
    begin = (first_of(program, starts), None, None)
    met = {begin}
    todo = [begin]
    ends = set()
    while todo:
        state, sums, place = todo.pop()
        for move, weight, after in reference_steps(program, state):
            told, where, end = told_after(program, state, move, weight, after, sums, place)
            if end is not None:
                ends.add((place,) + end)
            if (after, told, where) not in met:
                met.add((after, told, where))
                todo.append((after, told, where))
        if len(met) > most:
            raise TooLong
    return {(sums, place) for _, sums, place in met if sums is not None}, ends


def all_sums(program, state, most=2000):
    """The list of (sum before the stop holds, sum up to its end) of all ways on
    from an asked state by moves that count, each way by itself."""
    found = []
    todo = [(state, 0, 0)]
    while todo:
        here, rest, whole = todo.pop()
        if here[4] is None:
            found.append((rest, whole))
            continue
        held = is_holding(program, here)
        for _, weight, after in counting_steps(program, here):
            todo.append((after, rest if held else rest + weight, whole + weight))
        if len(todo) + len(found) > most:
            raise TooLong
    return found


def ends_stop(state, after):
    return state[4] is not None and after[4] is None


def greatest_ends(program, begins, thread=None, most=30000):
    """The greatest number of stops that end in moves from one of the states on, none
    of them a thread's, by trying all; None if there is no greatest number."""
    nexts = {}
    todo = list(begins)
    while todo:
        state = todo.pop()
        if state not in nexts:
            nexts[state] = [step for step in reference_steps(program, state) if step[0][0] != thread]
            todo.extend([step[2] for step in nexts[state]])
    steps = sum([ends_stop(state, step[2]) for state in nexts for step in nexts[state]])
    met = {(state, 0) for state in begins}
    todo = list(met)
    while todo:
        state, many = todo.pop()
        if many > steps:
            # One of the steps that end a stop was done twice.
            return None
        for _, _, after in nexts[state]:
            one = (after, many + ends_stop(state, after))
            if one not in met:
                met.add(one)
                todo.append(one)
        if len(met) > most:
            raise TooLong
    return max([many for _, many in met], default=0)


def is_before_stop(program, state, thread):
    """Whether a thread is inside and has a "stop" before it."""
    if not state[0][thread] or state[1][thread]:
        return False
    function, place = state[0][thread][-1]
    return program[2][function][place:place + 1] == (("stop",),)


def all_gaps(program, starts):
    """The least gap of each pair, by going over all states again and again."""
    states = distances_of(program, first_of(program, starts))
    found = {}
    for one in range(len(starts)):
        sums = {after: 0 for state in states for move, _, after in reference_steps(program, state)
                if ends_stop(state, after) and move[0] == one}
        changed = True
        while changed:
            changed = False
            for state, total in list(sums.items()):
                for _, weight, after in reference_steps(program, state):
                    if after[4] is None and total + weight < sums.get(after, total + weight + 1):
                        sums[after] = total + weight
                        changed = True
        for state, total in sums.items():
            for move, _, after in reference_steps(program, state):
                if after[4] is not None:
                    pair = (one, move[0])
                    found[pair] = min(total, found.get(pair, total))
    return found


def gap_of(program, starts, schedule):
    """(pair, gap) of a schedule that has a gap, told move by move."""
    state = first_of(program, starts)
    one, total = None, None
    for at, move in enumerate(schedule):
        weight, after = moved(program, state, *move)
        if at == len(schedule) - 1:
            assert state[4] is None and after[4] == move[0]
            return (one, move[0]), total
        if ends_stop(state, after):
            one, total = move[0], 0
        elif one is not None:
            total += weight
        state = after
    raise AssertionError("a schedule without moves has no gap")
