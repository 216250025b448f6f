"""How many stops can end, how often threads are overtaken, and the gaps between stops."""

from standasked.graphs import afters_first, least_sums, parts_of, way_between
from standasked.programs import check_program, check_starts, check_thread
from standasked.states import explored, instruction_of, is_done, is_outside, way_to
from standasked.stops import is_asked, requests_at


def is_end(before, after):
    """Whether a step from one state to another ends a stop."""
    return is_asked(before) and not is_asked(after)


def ends_graph(runs):
    """The graph of all steps, the weight of each being the number of stops that it ends."""
    return [
        [(move, 1 if is_end(state, runs.states[after]) else 0, after) for move, _, after in found]
        for state, found in zip(runs.states, runs.steps)
    ]


def repeated_end(graph, parts):
    """A step (number before, move, number after) that ends a stop and from which
    there is a way back, or None."""
    for at, found in enumerate(graph):
        for move, many, after in found:
            if many and parts[at] == parts[after]:
                return at, move, after
    return None


def most_ends(graph, order, parts):
    """For each part, where no end repeats itself, the greatest number of stops that
    end from there on, and the step (number before, move, number after) with which
    the way to them leaves the part, None if no stop ends."""
    most = {part: (0, None) for part in parts}
    for at in order:
        for move, many, after in graph[at]:
            total = many + most[parts[after]][0]
            if total > most[parts[at]][0]:
                most[parts[at]] = (total, (at, move, after))
    return most


def most_schedule(graph, parts, most):
    """A schedule in which as many stops end as can."""
    moves = []
    at = 0
    while most[parts[at]][1] is not None:
        before, move, after = most[parts[at]][1]
        if before != at:
            moves.extend(way_between(graph, at, before))
        moves.append(move)
        at = after
    return moves


def most_stops(program, starts):
    check_program(program)
    check_starts(program, starts)
    runs = explored(program, starts)
    graph = ends_graph(runs)
    order = afters_first(graph)
    parts = parts_of(graph, order)
    repeated = repeated_end(graph, parts)
    if repeated is not None:
        before, move, after = repeated
        return "endless", way_to(runs, before), [move] + way_between(graph, after, before)
    most = most_ends(graph, order, parts)
    return "most", most[parts[0]][0], most_schedule(graph, parts, most)


def is_before_stop(program, state, thread):
    """Whether a thread is inside and has a "stop" before it."""
    if is_done(state, thread) or is_outside(state, thread):
        return False
    return instruction_of(program, state, thread) == ("stop",)


def times_overtaken(program, runs, graph, thread):
    """How many stops can end at most while the thread, before a "stop", makes no move."""
    others = []
    for state, found in zip(runs.states, graph):
        waits = is_before_stop(program, state, thread)
        others.append([step for step in found if waits and step[0][0] != thread])
    order = afters_first(others)
    parts = parts_of(others, order)
    if repeated_end(others, parts) is not None:
        return None
    return max([many for many, _ in most_ends(others, order, parts).values()])


def overtaken(program, starts):
    check_program(program)
    check_starts(program, starts)
    runs = explored(program, starts)
    graph = ends_graph(runs)
    return tuple([times_overtaken(program, runs, graph, thread) for thread in range(len(starts))])


def calm_graph(runs):
    """The graph of the steps that lead to states in which no stop is requested."""
    asked = [is_asked(state) for state in runs.states]
    return [[step for step in found if not asked[step[2]]] for found in runs.steps]


def ends_of(runs, one):
    """For each number behind an end of a stop of a thread one (number before, move)."""
    found = {}
    for at, state in enumerate(runs.states):
        for move, _, after in runs.steps[at]:
            if move[0] == one and is_end(state, runs.states[after]):
                found[after] = (at, move)
    return found


def nearest_requests(runs, sums):
    """For each thread that requests a stop in one of the states that have a sum,
    the least (sum, number before, move) of a request."""
    nearest = {}
    for at, total in sums.items():
        for before, move, _ in requests_at(runs, at):
            offer = (total, before, move)
            if move[0] not in nearest or offer < nearest[move[0]]:
                nearest[move[0]] = offer
    return nearest


class Gaps:
    """What can come between the end of a stop of one thread and the next request."""

    def __init__(self, runs, one):
        self.ends = ends_of(runs, one)
        self.sums, self.ways = least_sums(calm_graph(runs), self.ends)
        self.nearest = nearest_requests(runs, self.sums)


def gaps(program, starts):
    check_program(program)
    check_starts(program, starts)
    runs = explored(program, starts)
    found = {}
    for one in range(len(starts)):
        for other, nearest in Gaps(runs, one).nearest.items():
            found[(one, other)] = nearest[0]
    return found


def gap_schedule(program, starts, one, other):
    check_program(program)
    check_starts(program, starts)
    check_thread(starts, one)
    check_thread(starts, other)
    runs = explored(program, starts)
    found = Gaps(runs, one)
    if other not in found.nearest:
        return None
    _, at, request = found.nearest[other]
    moves = [request]
    while at in found.ways:
        at, move = found.ways[at]
        moves.append(move)
    before, end = found.ends[at]
    return way_to(runs, before) + [end] + moves[::-1]
