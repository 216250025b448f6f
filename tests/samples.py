"""Programs and values that several tests use."""

import random

from standasked.programs import is_program

PAIR = (0, 0, ((("stop",), ("work", 5), ("go",)), (("work", 7), ("ask",))))

# The programs of the document's examples with their starts.
EXAMPLES = [
    (PAIR, (0, 1)),
    ((1, 0, ((("take", 0), ("stop",), ("go",)), (("take", 0), ("free", 0)))), (0, 1)),
    ((0, 1, ((("stop",), ("go",), ("raise", 0)), (("if", 0, 2), ("jump", 0)))), (0, 1)),
    ((1, 0, ((("stop",), ("take", 0), ("go",)), (("take", 0), ("ask",)))), (0, 1)),
    ((0, 0, ((("stop",), ("go",), ("work", 99)),
             (("ask",), ("work", 99), ("ask",), ("jump", 2)),
             (("stop",), ("go",)))), (0, 1, 2)),
    ((0, 0, ((("stop",), ("go",)), (("leave",), ("work", 3)))), (0, 1)),
]

ALL_WORDS = (3, 3, (
    (("work", 1), ("branch", 0), ("jump", 9), ("call", 1), ("take", 0),
     ("free", 1), ("safe take", 2), ("raise", 0), ("lower", 2)),
    (("if", 1, 4), ("ask",), ("leave",), ("stop",)),
    (("go",), ("work", 99)),
))

# Values of every kind that is no number, and numbers out of all ranges.
NO_NUMBERS = [True, False, None, "", "0", "work", (), (0,), (1,), [], [0], {}, {0: 0},
              -1, 65536, 10 ** 20, -(10 ** 20)]

NO_PROGRAMS = [True, False, None, 0, 1, 10 ** 20, "", "work", (), [], {}, {0: PAIR}, [PAIR],
               (PAIR,), (0, 0), (0, 0, ()), (0, 0, PAIR[2], 0), list(PAIR), (0, 0, list(PAIR[2]))]


def one_function(*instructions, locks=0, flags=0):
    return (locks, flags, (instructions,))


def functions_of(*functions):
    return (0, 0, functions)


def works(many):
    return (("work", 1),) * many


def generated_program(source):
    """A program of three small functions, from a random source with a seed."""
    functions = []
    for at in range(3):
        length = source.randint(1, 4)
        functions.append(tuple([generated_instruction(source, at, length)
                                for _ in range(length)]))
    program = (2, 1, tuple(functions))
    assert is_program(program)
    return program


def generated_instruction(source, at, length):
    place = source.randint(0, length)
    words = [("work", source.randint(1, 99)), ("branch", place), ("jump", place),
             ("take", source.randint(0, 1)), ("free", source.randint(0, 1)),
             ("safe take", source.randint(0, 1)), ("raise", 0), ("lower", 0),
             ("if", 0, place), ("ask",), ("leave",), ("stop",), ("go",), ("stop",), ("go",)]
    if at < 2:
        words.append(("call", source.randint(at + 1, 2)))
    return source.choice(words)


def generated_runs(many):
    """Programs with starts, the same ones at each call."""
    source = random.Random(20)
    runs = []
    for _ in range(many):
        program = generated_program(source)
        starts = tuple([source.randint(0, 2) for _ in range(source.randint(1, 3))])
        runs.append((program, starts))
    return runs


def calm_function(source, at):
    """Instructions without a way back, in which each stop has its "go"."""
    pieces = [
        [("work", source.randint(1, 99))], [("ask",)], [("ask",), ("work", 2)], [("branch", None)],
        [("leave",), ("work", source.randint(1, 9))], [("take", 0), ("free", 0)],
        [("take", 0), ("work", 3), ("free", 0)], [("safe take", 1), ("free", 1)],
        [("raise", 0)], [("if", 0, None)],
        [("stop",), ("work", source.randint(1, 9)), ("go",)], [("stop",), ("go",)], [("stop",), ("go",)],
    ]
    if at < 2:
        pieces.append([("call", source.randint(at + 1, 2))])
    chosen = source.choice(pieces) + source.choice(pieces) + source.choice(pieces[:-1])
    return tuple([one if one[-1] is not None else one[:-1] + (source.randint(place + 1, len(chosen)),)
                  for place, one in enumerate(chosen)])


def calm_runs(many):
    """Programs most of whose stops hold and end, the same ones at each call."""
    source = random.Random(7)
    runs = []
    for _ in range(many):
        program = (2, 1, tuple([calm_function(source, at) for at in range(3)]))
        assert is_program(program)
        starts = tuple([source.randint(0, 2) for _ in range(source.randint(1, 3))])
        runs.append((program, starts))
    return runs


def mixed_runs(many):
    """The programs of calm_runs with some instructions put in by chance: with
    stuck states and rings among them."""
    source = random.Random(11)
    runs = []
    for program, starts in calm_runs(many):
        functions = [list(function) for function in program[2]]
        for _ in range(source.randint(1, 2)):
            at = source.randint(0, 2)
            place = source.randint(0, len(functions[at]) - 1)
            functions[at][place] = source.choice([
                generated_instruction(source, at, len(functions[at])),
                (source.choice(["branch", "jump"]), source.randint(0, place))])
        program = (2, 1, tuple([tuple(function) for function in functions]))
        assert is_program(program)
        runs.append((program, starts))
    return runs


def long_run(*last):
    """One thread with a stop, an "ask" and 2000 states, each instruction of last one more."""
    return functions_of((("stop",), ("go",)) + (("call", 1),) * 5 + (("ask",),) + last,
                        (("call", 2),) * 9 + works(1), (("call", 3),) * 6, works(5))


STATES_2000 = (long_run(), (0,))
STATES_2001 = (long_run(("work", 1)), (0,))


def growing_run(before, behind):
    """Four threads, whose states are more with the "ask" than without it."""
    return functions_of(works(3) + (("stop",), ("go",)) + works(2),
                        works(before) + (("ask",),) + works(behind), works(4), works(4)), (0, 1, 2, 3)


# 1984 states without the "ask" each, and 2000 or 2008 with it.
UP_TO_2000 = growing_run(6, 2)
UP_TO_2008 = growing_run(4, 4)


def lock_runs(many):
    """Programs of threads that take locks in any order, the same ones at each call."""
    source = random.Random(3)
    runs = []
    for _ in range(many):
        functions = [(("work", 2), ("stop",), ("go",))]
        for _ in range(3):
            locks = source.sample(range(3), 2)
            functions.append(tuple([(source.choice(["take"] * 5 + ["safe take"]), lock) for lock in locks]
                                   + [source.choice([("ask",), ("work", 1), ("leave",)])]
                                   + [("free", lock) for lock in locks]))
        runs.append(((3, 0, tuple(functions)), (0,) + source.choice([(1, 2), (1, 3), (1, 2, 3)])))
    return runs


def looping_runs(many):
    """Programs in which threads go back to their stops, the same ones at each call."""
    source = random.Random(17)
    runs = []
    for _ in range(many):
        functions = []
        for at in range(3):
            function = calm_function(source, at)
            back = (source.choice(["jump", "branch", "work"]), source.randint(1, len(function)))
            functions.append(function + (back,))
        program = (2, 1, tuple(functions))
        assert is_program(program)
        runs.append((program, tuple([source.randint(0, 2) for _ in range(source.randint(1, 3))])))
    return runs


def ordered_runs(many):
    """Programs in which a thread waits for a flag that another one raises behind its
    stop, the same ones at each call."""
    source = random.Random(23)
    pieces = [(), (), (("work", 4),), (("branch", None),), (("ask",),), (("leave",),), (("lower", 0),), (("call", 2),)]
    runs = []
    for _ in range(many):
        functions = [
            (("stop",), ("go",)) + source.choice(pieces) + (("raise", 0),) + source.choice(pieces),
            (("if", 0, 3), ("ask",), ("jump", 0)) + source.choice(pieces) + (("stop",), ("go",))
            + source.choice(pieces),
            source.choice([(("work", 7),), (("work", 2), ("stop",), ("go",))]),
        ]
        for at, function in enumerate(functions):
            functions[at] = tuple([one if one[-1] is not None else ("branch", source.randint(0, len(function)))
                                   for one in function])
        program = (0, 1, tuple(functions))
        assert is_program(program)
        runs.append((program, (0, 1) + source.choice([(), (), (1,), (2,)])))
    return runs


def with_takes(program):
    """The program with a "take" of a lock of its own instead of each "ask"."""
    locks, flags, functions = program
    return (locks + 1, flags, tuple([
        tuple([("take", locks) if one == ("ask",) else one for one in function]) for function in functions]))


# The states of these with their "take" made safe are as many as with the "ask".
TAKES_2000 = (with_takes(UP_TO_2000[0]), UP_TO_2000[1])
TAKES_2008 = (with_takes(UP_TO_2008[0]), UP_TO_2008[1])
