"""Whether all stops hold and end, how late they hold, and how long they last."""

from standasked.graphs import afters_first, greatest_sums, parts_of, way_between
from standasked.programs import check_program, check_starts, check_thread
from standasked.states import explored, is_plain, is_standing, steps_from, stop_holds, way_to
from standasked.values import is_integer


def is_asked(state):
    return state[4] is not None


def counting(program, state, found):
    """Those of the steps from a state that count."""
    if not is_asked(state):
        return []
    return [step for step in found if not is_standing(program, state, step[0][0])]


def is_stuck(program, state):
    return is_asked(state) and not counting(program, state, steps_from(program, state))


class Stops:
    """The runs of a program, and what in them belongs to stops: lists with, for
    each number of a state, a list of (move, weight, number of the state after)."""

    def __init__(self, program, starts):
        self.runs = explored(program, starts)
        # What counts, and what of this comes before the stop holds.
        self.counted = []
        self.pending = []
        # The moves that request a stop, as (number before, move, number after).
        self.requests = []
        for at, state in enumerate(self.runs.states):
            found = counting(program, state, self.runs.steps[at])
            self.counted.append(found)
            self.pending.append([] if stop_holds(program, state) else found)
            self.requests.extend(requests_at(self.runs, at))
        self.order = afters_first(self.counted)


def requests_at(runs, at):
    if is_asked(runs.states[at]):
        return []
    return [(at, move, after) for move, _, after in runs.steps[at] if is_asked(runs.states[after])]


def first_stuck(stops):
    """The number of a stuck state with the fewest moves to it, or None."""
    for at, state in enumerate(stops.runs.states):
        if is_asked(state) and not stops.counted[at]:
            return at
    return None


def first_in_ring(stops):
    """The number of a state with a ring and with the fewest moves to it, or None."""
    parts = parts_of(stops.counted, stops.order)
    for at, found in enumerate(stops.counted):
        if any([parts[step[2]] == parts[at] for step in found]):
            return at
    return None


def rest_sums(stops):
    return greatest_sums(stops.pending, stops.order)


def whole_sums(stops):
    return greatest_sums(stops.counted, stops.order)


def share_sums(stops, thread):
    graph = [
        [(move, weight if move[0] == thread else 0, after) for move, weight, after in found]
        for found in stops.pending
    ]
    return greatest_sums(graph, stops.order)


def worst_request(stops, sums):
    """One of the requests with the greatest sum behind it."""
    best = stops.requests[0]
    for request in stops.requests:
        if sums[request[2]][0] > sums[best[2]][0]:
            best = request
    return best


def worst_sum(stops, sums):
    return sums[worst_request(stops, sums)[2]][0]


def worst_schedule(stops, sums):
    """A schedule whose moves behind the last request have the greatest sum."""
    before, move, at = worst_request(stops, sums)
    moves = way_to(stops.runs, before)
    moves.append(move)
    while sums[at][1] is not None:
        move, _, at = sums[at][1]
        moves.append(move)
    return moves


def judge(program, starts):
    check_program(program)
    check_starts(program, starts)
    stops = Stops(program, starts)
    if not stops.requests:
        return ("none",)
    stuck = first_stuck(stops)
    if stuck is not None:
        return "stuck", way_to(stops.runs, stuck)
    ring = first_in_ring(stops)
    if ring is not None:
        return "ring", way_to(stops.runs, ring), way_between(stops.counted, ring, ring)
    late = rest_sums(stops)
    whole = whole_sums(stops)
    return (
        "late",
        worst_sum(stops, late),
        worst_schedule(stops, late),
        worst_sum(stops, whole),
        worst_schedule(stops, whole),
    )


def late_stops(program, starts):
    """The stops of a program of which judge returns "late", else None."""
    stops = Stops(program, starts)
    if not stops.requests or first_stuck(stops) is not None or first_in_ring(stops) is not None:
        return None
    return stops


def rests(program, starts):
    check_program(program)
    check_starts(program, starts)
    stops = late_stops(program, starts)
    if stops is None:
        return None
    found = {}
    for state, rest, whole in zip(stops.runs.states, rest_sums(stops), whole_sums(stops)):
        if is_asked(state):
            found[state] = (rest[0], whole[0])
    return found


def shows_rests(program, starts, thing):
    found = rests(program, starts)
    if found is None or thing != found:
        return False
    # Equal keys and values may still have booleans for numbers; a sum may be
    # greater than any NUMBER.
    return all([is_plain(state) and is_plain_pair(sums) for state, sums in thing.items()])


def is_plain_pair(sums):
    return is_integer(sums[0]) and is_integer(sums[1])


def lates(program, starts):
    check_program(program)
    check_starts(program, starts)
    stops = late_stops(program, starts)
    if stops is None:
        return None
    late = rest_sums(stops)
    whole = whole_sums(stops)
    found = {}
    for before, move, after in stops.requests:
        frame = stops.runs.states[before][0][move[0]][-1]
        lateness, pause = found.get(frame, (0, 0))
        found[frame] = (max(lateness, late[after][0]), max(pause, whole[after][0]))
    return found


def shares(program, starts):
    check_program(program)
    check_starts(program, starts)
    stops = late_stops(program, starts)
    if stops is None:
        return None
    return tuple([worst_sum(stops, share_sums(stops, at)) for at in range(len(starts))])


def share_schedule(program, starts, thread):
    check_program(program)
    check_starts(program, starts)
    check_thread(starts, thread)
    stops = late_stops(program, starts)
    if stops is None:
        return None
    return worst_schedule(stops, share_sums(stops, thread))
