"""The runs of threads once more, written apart from the package: a world of
dicts that a move changes, to compare the package's steps with."""


def world_of(state):
    threads, outs, locks, flags, asker = state
    return {"stacks": [list(stack) for stack in threads], "outs": list(outs),
            "locks": list(locks), "flags": list(flags), "asker": asker}


def state_of(world):
    return (tuple([tuple(stack) for stack in world["stacks"]]), tuple(world["outs"]),
            tuple(world["locks"]), tuple(world["flags"]), world["asker"])


def word_of(program, world, thread):
    function, place = world["stacks"][thread][-1]
    return (program[2][function] + (("end",),))[place]


def stands(program, world, thread):
    if not world["stacks"][thread] or world["outs"][thread]:
        return True
    return word_of(program, world, thread)[0] in {"ask", "stop", "safe take"}


def holds(program, world):
    return all(stands(program, world, other) for other in range(len(world["stacks"]))
               if other != world["asker"])


def moved(program, state, thread, bit):
    """(weight, state) of a move, None if it is not there."""
    world = world_of(state)
    stack = world["stacks"][thread]
    if not stack or world["asker"] == thread and not holds(program, world):
        return None
    word, *numbers = word_of(program, world, thread)
    foreign = world["asker"] not in (None, thread)
    if bit == 1 and (word != "branch"):
        return None
    if world["outs"][thread]:
        if word not in {"work", "branch", "jump", "call", "ask", "leave", "end"}:
            world["outs"][thread] = 0
            return None if foreign else (1, state_of(world))
    elif foreign and stands(program, world, thread):
        return None
    if word.endswith("take") and world["locks"][numbers[0]] is not None:
        return None
    execute(world, thread, word, numbers, bit)
    return (numbers[0] if word == "work" else 1), state_of(world)


def execute(world, thread, word, numbers, bit):
    stack = world["stacks"][thread]
    if word == "call":
        stack.append((numbers[0], 0))
        return
    if word == "end":
        stack.pop()
        if not stack:
            world["outs"][thread] = 0
            return
    goes = word == "jump" or bit == 1 or word == "if" and world["flags"][numbers[0]] == 1
    function, place = stack[-1]
    stack[-1] = (function, numbers[-1] if goes else place + 1)
    if word in {"take", "safe take"}:
        world["locks"][numbers[0]] = thread
    if word == "free" and world["locks"][numbers[0]] == thread:
        world["locks"][numbers[0]] = None
    if word in {"raise", "lower"}:
        world["flags"][numbers[0]] = 1 if word == "raise" else 0
    if word == "leave":
        world["outs"][thread] = 1
    if word == "stop":
        world["asker"] = thread
    if word == "go" and world["asker"] == thread:
        world["asker"] = None


def reference_steps(program, state):
    found = []
    for thread in range(len(state[0])):
        for bit in (0, 1):
            told = moved(program, state, thread, bit)
            if told is not None:
                found.append(((thread, bit),) + told)
    return found


def reference_distances(program, first):
    """The least number of moves to each state, by going over all again and again."""
    distances = {first: 0}
    changed = True
    while changed:
        changed = False
        for state, least in list(distances.items()):
            for _, _, after in reference_steps(program, state):
                if distances.get(after, least + 2) > least + 1:
                    distances[after] = least + 1
                    changed = True
    return distances
