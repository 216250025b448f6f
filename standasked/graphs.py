"""Graphs: lists with, for each number of a state, a list of steps (move, weight,
number of the state after it)."""

from heapq import heappop, heappush


def afters_first(graph):
    """All numbers, each behind all that its steps lead to, but for rings."""
    order = []
    met = [False] * len(graph)
    for root in range(len(graph)):
        # What is to be done yet: a number, and how many of its steps are done.
        todo = [] if met[root] else [(root, 0)]
        met[root] = True
        while todo:
            at, many = todo.pop()
            if many == len(graph[at]):
                order.append(at)
                continue
            todo.append((at, many + 1))
            after = graph[at][many][2]
            if not met[after]:
                met[after] = True
                todo.append((after, 0))
    return order


def reversed_graph(graph):
    """For each number the list of those that have a step to it."""
    befores = [[] for _ in graph]
    for at, found in enumerate(graph):
        for step in found:
            befores[step[2]].append(at)
    return befores


def parts_of(graph, order):
    """For each number one of those that it leads to and that lead to it, for
    all of these the same one."""
    befores = reversed_graph(graph)
    parts = [None] * len(graph)
    # The last number in the order is led to by none that it does not lead to,
    # so going back from it meets just its own part; so then for what is left.
    for root in reversed(order):
        todo = [root] if parts[root] is None else []
        while todo:
            at = todo.pop()
            if parts[at] is None:
                parts[at] = root
                todo.extend(befores[at])
    return parts


def way_between(graph, root, goal):
    """A list of moves, one or more, as few as any, from a number to another one
    that it leads to, or from a number with a ring back to itself."""
    ways = {}
    reached = [root]
    many = 0
    while goal not in ways:
        at = reached[many]
        many += 1
        for move, _, after in graph[at]:
            if after not in ways:
                ways[after] = (at, move)
                reached.append(after)
    at, move = ways[goal]
    moves = [move]
    while at != root:
        at, move = ways[at]
        moves.append(move)
    return moves[::-1]


def greatest_sums(graph, order):
    """For each number the greatest sum of weights from there on, and the step
    that it begins with, None where no step adds to it."""
    sums = [(0, None)] * len(graph)
    for at in order:
        for step in graph[at]:
            total = step[1] + sums[step[2]][0]
            if total > sums[at][0]:
                sums[at] = (total, step)
    return sums


def least_sums(graph, roots):
    """For each number that some root leads to the least sum of weights up to it,
    and for those with a sum above 0 the (number before, move) of a way with it."""
    sums = {root: 0 for root in roots}
    ways = {}
    queue = [(0, root) for root in sorted(roots)]
    while queue:
        total, at = heappop(queue)
        if total > sums[at]:
            continue
        for move, weight, after in graph[at]:
            if after not in sums or total + weight < sums[after]:
                sums[after] = total + weight
                ways[after] = (at, move)
                heappush(queue, (total + weight, after))
    return sums, ways
