"""Programs as texts, and texts as programs."""

from standasked.errors import StandError
from standasked.programs import (
    MOST_FLAGS, MOST_FUNCTIONS, MOST_INSTRUCTIONS, MOST_LOCKS, check_program, is_instruction, number_ranges,
)
from standasked.values import HIGHEST, is_between

# The two words of a head and of a "safe take"; no single word has a blank.
HEAD = "locks flags"
SAFE_TAKE = "safe take"

FUNCTION = "function"


class NoText(StandError):
    """A value is no text of a program; line tells the number of the wrong line."""

    def __init__(self, text, line):
        StandError.__init__(self, text)
        self.line = line


def written(program):
    check_program(program)
    locks, flags, functions = program
    lines = [f"locks {locks} flags {flags}"]
    for at, function in enumerate(functions):
        lines.append(f"{FUNCTION} {at}")
        for instruction in function:
            lines.append("  " + " ".join([str(part) for part in instruction]))
    return "".join([line + "\n" for line in lines])


def lines_of(text):
    lines = text.split("\n")
    if lines[-1] == "":
        lines.pop()
    return lines


def number_of(word):
    """The number of a word of figures, None of another one."""
    if not word.isascii() or not word.isdigit() or len(word) > 1 and word[0] == "0":
        return None
    # There are words of thousands of figures; no limit is as great as HIGHEST.
    return min(int(word[:6]), HIGHEST)


def told_by(line):
    """The word of a line, perhaps one of two words, with its numbers: None for
    what is not one. () if the line tells nothing."""
    words = [word for word in line.partition("#")[0].split(" ") if word]
    if words[:2] == ["safe", "take"]:
        words = [SAFE_TAKE] + words[2:]
    elif words[:1] == ["locks"] and words[2:3] == ["flags"]:
        words = [HEAD, words[1]] + words[3:]
    return tuple(words[:1] + [number_of(word) for word in words[1:]])


class Draft:
    """What the lines of a text have told so far."""

    def __init__(self):
        # The numbers of locks and flags.
        self.head = None
        # For each function its instructions, and the numbers of its line and theirs.
        self.functions = []
        self.lines = []


def is_head(told):
    if len(told) != 3 or told[0] != HEAD:
        return False
    return is_between(told[1], 0, MOST_LOCKS) and is_between(told[2], 0, MOST_FLAGS)


def early_ranges(head):
    """The ranges of numbers before all functions are told: any place and any
    function may turn out to be there."""
    ranges = number_ranges((head[0], head[1], ((),)), 0)
    ranges["place"] = (0, HIGHEST)
    ranges["function"] = (0, HIGHEST)
    return ranges


def is_right(draft, told):
    """Whether what a line tells is right by itself and by its place."""
    if draft.head is None:
        return is_head(told)
    many = len(draft.functions)
    if told[0] == FUNCTION:
        return told == (FUNCTION, many) and many < MOST_FUNCTIONS
    if many == 0 or len(draft.functions[-1]) == MOST_INSTRUCTIONS:
        return False
    return is_instruction(told, early_ranges(draft.head))


def add_line(draft, number, told):
    if draft.head is None:
        draft.head = told[1:]
    elif told[0] == FUNCTION:
        draft.functions.append([])
        draft.lines.append([number])
    else:
        draft.functions[-1].append(told)
        draft.lines[-1].append(number)


def drafted(lines):
    draft = Draft()
    for number, line in enumerate(lines, start=1):
        told = told_by(line)
        if not told:
            continue
        if not is_right(draft, told):
            raise NoText("a line is wrong", number)
        add_line(draft, number, told)
    return draft


def check_whole(program, lines):
    """Check what only all functions together show, with the numbers of the lines."""
    for at, function in enumerate(program[2]):
        if not function:
            raise NoText("a function has no instruction", lines[at][0])
        ranges = number_ranges(program, at)
        for instruction, number in zip(function, lines[at][1:]):
            if not is_instruction(instruction, ranges):
                raise NoText("there is no such place or function", number)


def read(text):
    if not isinstance(text, str):
        raise NoText("a text is a string", 0)
    lines = lines_of(text)
    draft = drafted(lines)
    if not draft.functions:
        raise NoText("there is no head or no function", len(lines) + 1)
    functions = tuple([tuple(function) for function in draft.functions])
    program = draft.head + (functions,)
    check_whole(program, draft.lines)
    return program
