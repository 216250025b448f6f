"""Texts of programs once more, read apart from the package: each line is looked at
by itself, with what stands ahead of it and behind it."""

import re

NUMBER = "(0|[1-9][0-9]*)"

FORMS = {
    "head": ("locks", NUMBER, "flags", NUMBER), "function": ("function", NUMBER),
    "work": ("work", NUMBER), "branch": ("branch", NUMBER), "jump": ("jump", NUMBER), "call": ("call", NUMBER),
    "take": ("take", NUMBER), "free": ("free", NUMBER), "safe take": ("safe", "take", NUMBER),
    "raise": ("raise", NUMBER), "lower": ("lower", NUMBER), "if": ("if", NUMBER, NUMBER),
    "ask": ("ask",), "leave": ("leave",), "stop": ("stop",), "go": ("go",),
}


def form_of(line):
    """(word, numbers), None for nothing, "wrong" for what has none of the forms."""
    line = line[:line.index("#")] if "#" in line else line
    if re.fullmatch(" *", line):
        return None
    for word, parts in FORMS.items():
        found = re.fullmatch(" *" + " +".join(parts) + " *", line)
        if found:
            # Some are longer than Python reads at once.
            return word, [int(one) if len(one) < 9 else 10 ** 9 for one in found.groups()]
    return "wrong"


def is_wrong_there(forms, at):
    """Whether a line is wrong by itself or by its place, all before it being right."""
    form = forms[at]
    before = [one for one in forms[:at] if one is not None]
    if form == "wrong":
        return True
    word, numbers = form
    if word == "head":
        return bool(before) or max(numbers) > 3
    if not before:
        return True
    locks, flags = before[0][1]
    words = [one[0] for one in before]
    if word == "function":
        return numbers[0] != words.count("function") or numbers[0] > 5
    if "function" not in words or words[::-1].index("function") == 10:
        return True
    first = numbers[0] if numbers else None
    return (word == "work" and not 1 <= first <= 99
            or word in ("take", "free", "safe take") and first >= locks
            or word in ("raise", "lower", "if") and first >= flags)


def reference_read(text):
    """The program of a text, or the number of the line that is wrong."""
    lines = text.split("\n")
    if not lines[-1]:
        del lines[-1]
    forms = [form_of(line) for line in lines]
    for at, form in enumerate(forms):
        if form is not None and is_wrong_there(forms, at):
            return at + 1
    starts = [at for at, form in enumerate(forms) if form is not None and form[0] == "function"]
    functions = [[form for form in forms[begin + 1:end] if form is not None]
                 for begin, end in zip(starts, starts[1:] + [len(forms)])]
    inside = None
    for at, form in enumerate(forms):
        if form is None or form[0] == "head":
            continue
        word, numbers = form
        if word == "function":
            inside = numbers[0]
            if not functions[inside]:
                return at + 1
        if word in ("jump", "branch", "if") and numbers[-1] > len(functions[inside]):
            return at + 1
        if word == "call" and not inside < numbers[0] < len(functions):
            return at + 1
    if not functions:
        return len(lines) + 1
    head = [form for form in forms if form is not None][0]
    return (head[1][0], head[1][1], tuple([
        tuple([(word,) + tuple(numbers) for word, numbers in function]) for function in functions]))
