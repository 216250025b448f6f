"""Programs, starts, and the askings of a program."""

from standasked.errors import NoKept, NoProgram, NoStarts, NoThread
from standasked.values import is_between, is_number, is_row

MOST_LOCKS = 3
MOST_FLAGS = 3
MOST_FUNCTIONS = 6
MOST_INSTRUCTIONS = 10
MOST_THREADS = 4
MOST_WEIGHT = 99

# For each word of an instruction, what its numbers mean.
WORDS = {
    "work": ("weight",),
    "branch": ("place",),
    "jump": ("place",),
    "call": ("function",),
    "take": ("lock",),
    "free": ("lock",),
    "safe take": ("lock",),
    "raise": ("flag",),
    "lower": ("flag",),
    "if": ("flag", "place"),
    "ask": (),
    "leave": (),
    "stop": (),
    "go": (),
}


def is_program(thing):
    if not is_row(thing, 3):
        return False
    locks, flags, functions = thing
    if not is_between(locks, 0, MOST_LOCKS) or not is_between(flags, 0, MOST_FLAGS):
        return False
    if not isinstance(functions, tuple) or not 1 <= len(functions) <= MOST_FUNCTIONS:
        return False
    return all([is_function(thing, at) for at in range(len(functions))])


def is_function(program, at):
    function = program[2][at]
    if not isinstance(function, tuple) or not 1 <= len(function) <= MOST_INSTRUCTIONS:
        return False
    ranges = number_ranges(program, at)
    return all([is_instruction(one, ranges) for one in function])


def number_ranges(program, at):
    """The least and the greatest number of each meaning in a function."""
    locks, flags, functions = program
    return {
        "weight": (1, MOST_WEIGHT),
        "place": (0, len(functions[at])),
        "function": (at + 1, len(functions) - 1),
        "lock": (0, locks - 1),
        "flag": (0, flags - 1),
    }


def is_instruction(thing, ranges):
    if not isinstance(thing, tuple) or not thing:
        return False
    word = thing[0]
    if not isinstance(word, str) or word not in WORDS:
        return False
    meanings = WORDS[word]
    if len(thing) != 1 + len(meanings):
        return False
    for number, meaning in zip(thing[1:], meanings):
        low, high = ranges[meaning]
        if not is_between(number, low, high):
            return False
    return True


def check_program(program):
    if not is_program(program):
        raise NoProgram("this is no program")


def check_starts(program, starts):
    if not isinstance(starts, tuple) or not 1 <= len(starts) <= MOST_THREADS:
        raise NoStarts("starts are a tuple of 1 to 4 numbers of functions")
    for function in starts:
        if not is_between(function, 0, len(program[2]) - 1):
            raise NoStarts("each of the starts is the number of a function")


def check_thread(starts, thread):
    if not is_between(thread, 0, len(starts) - 1):
        raise NoThread("there is no such thread")


def instruction_at(program, function, place):
    """The instruction at a place of a function, None at its end."""
    instructions = program[2][function]
    if place == len(instructions):
        return None
    return instructions[place]


def places_of(program, word):
    """The ascending list of all (function, place) with this word."""
    return [
        (at, place)
        for at, function in enumerate(program[2])
        for place, instruction in enumerate(function)
        if instruction[0] == word
    ]


def replaced(program, instructions):
    """The program with other instructions: those of a dict from (function, place)."""
    locks, flags, functions = program
    changed = [list(function) for function in functions]
    for (at, place), instruction in instructions.items():
        changed[at][place] = instruction
    return locks, flags, tuple([tuple(function) for function in changed])


def is_choice(thing, known):
    """Whether this is a list of different members of known places."""
    if not isinstance(thing, list):
        return False
    seen = []
    for one in thing:
        # (0, True) equals (0, 1), so the numbers are looked at, too.
        if not is_row(one, 2) or not is_number(one[0]) or not is_number(one[1]):
            return False
        if one not in known or one in seen:
            return False
        seen.append(one)
    return True


def askings(program):
    check_program(program)
    return places_of(program, "ask")


def without(program, kept):
    known = askings(program)
    if not is_choice(kept, known):
        raise NoKept("kept is a list of different askings")
    return replaced(program, {one: ("work", 1) for one in known if one not in kept})
