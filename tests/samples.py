"""Programs and values that several tests use."""

import random

from standasked.programs import is_program

PAIR = (0, 0, ((("stop",), ("work", 5), ("go",)), (("work", 7), ("ask",))))

# The programs of the document's examples with their starts.
EXAMPLES = [
    (PAIR, (0, 1)),
    ((1, 0, ((("take", 0), ("stop",), ("go",)), (("take", 0), ("free", 0)))), (0, 1)),
    ((0, 1, ((("stop",), ("go",), ("raise", 0)), (("if", 0, 2), ("jump", 0)))), (0, 1)),
    ((1, 0, ((("stop",), ("take", 0), ("go",)), (("take", 0), ("ask",)))), (0, 1)),
    ((0, 0, ((("stop",), ("go",), ("work", 99)),
             (("ask",), ("work", 99), ("ask",), ("jump", 2)),
             (("stop",), ("go",)))), (0, 1, 2)),
    ((0, 0, ((("stop",), ("go",)), (("leave",), ("work", 3)))), (0, 1)),
]

ALL_WORDS = (3, 3, (
    (("work", 1), ("branch", 0), ("jump", 9), ("call", 1), ("take", 0),
     ("free", 1), ("safe take", 2), ("raise", 0), ("lower", 2)),
    (("if", 1, 4), ("ask",), ("leave",), ("stop",)),
    (("go",), ("work", 99)),
))

# Values of every kind that is no number, and numbers out of all ranges.
NO_NUMBERS = [True, False, None, "", "0", "work", (), (0,), (1,), [], [0], {}, {0: 0},
              -1, 65536, 10 ** 20, -(10 ** 20)]

NO_PROGRAMS = [True, False, None, 0, 1, 10 ** 20, "", "work", (), [], {}, {0: PAIR}, [PAIR],
               (PAIR,), (0, 0), (0, 0, ()), (0, 0, PAIR[2], 0), list(PAIR), (0, 0, list(PAIR[2]))]


def one_function(*instructions, locks=0, flags=0):
    return (locks, flags, (instructions,))


def functions_of(*functions):
    return (0, 0, functions)


def works(many):
    return (("work", 1),) * many


def generated_program(source):
    """A program of three small functions, from a random source with a seed."""
    functions = []
    for at in range(3):
        length = source.randint(1, 4)
        functions.append(tuple([generated_instruction(source, at, length)
                                for _ in range(length)]))
    program = (2, 1, tuple(functions))
    assert is_program(program)
    return program


def generated_instruction(source, at, length):
    place = source.randint(0, length)
    words = [("work", source.randint(1, 99)), ("branch", place), ("jump", place),
             ("take", source.randint(0, 1)), ("free", source.randint(0, 1)),
             ("safe take", source.randint(0, 1)), ("raise", 0), ("lower", 0),
             ("if", 0, place), ("ask",), ("leave",), ("stop",), ("go",), ("stop",), ("go",)]
    if at < 2:
        words.append(("call", source.randint(at + 1, 2)))
    return source.choice(words)


def generated_runs(many):
    """Programs with starts, the same ones at each call."""
    source = random.Random(20)
    runs = []
    for _ in range(many):
        program = generated_program(source)
        starts = tuple([source.randint(0, 2) for _ in range(source.randint(1, 3))])
        runs.append((program, starts))
    return runs
