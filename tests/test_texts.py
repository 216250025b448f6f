"""Programs as texts, and texts as programs."""

import random
import unittest

from standasked.errors import NoProgram, StandError
from standasked.programs import WORDS, is_program
from standasked.texts import NoText, read, written
from tests.samples import (ALL_WORDS, EXAMPLES, NO_PROGRAMS, PAIR, calm_runs, functions_of, generated_runs,
                           lock_runs, looping_runs, one_function, works)
from tests.texts import reference_read

PAIR_TEXT = """locks 0 flags 0
function 0
  stop
  work 5
  go
function 1
  work 7
  ask
"""

ALL_TEXT = """locks 3 flags 3
function 0
  work 1
  branch 0
  jump 9
  call 1
  take 0
  free 1
  safe take 2
  raise 0
  lower 2
function 1
  if 1 4
  ask
  leave
  stop
function 2
  go
  work 99
"""

GREATEST = (3, 3, ((("if", 2, 10),) * 10,) * 6)


def with_line(text, number, line):
    """The text with another line of this number, counted from 1."""
    lines = text.split("\n")
    lines[number - 1] = line
    return "\n".join(lines)


def with_more(text, number, line):
    """The text with one line more before that of this number."""
    lines = text.split("\n")
    return "\n".join(lines[:number - 1] + [line] + lines[number - 1:])


class ErrorTest(unittest.TestCase):
    def test_no_text(self):
        self.assertEqual(NoText.__bases__, (StandError,))
        self.assertEqual(NoText.__module__, "standasked.texts")
        error = NoText("what is wrong", 7)
        self.assertEqual(error.line, 7)
        self.assertEqual(str(error), "what is wrong")
        self.assertEqual(NoText("", 0).line, 0)


class WrittenTest(unittest.TestCase):
    def test_each_form(self):
        self.assertEqual(written(PAIR), PAIR_TEXT)
        self.assertEqual(written(ALL_WORDS), ALL_TEXT)
        words = {one[0] for function in ALL_WORDS[2] for one in function}
        self.assertEqual(words, set(WORDS))

    def test_the_least_and_the_greatest_program(self):
        self.assertEqual(written(one_function(("go",))), "locks 0 flags 0\nfunction 0\n  go\n")
        wanted = "locks 3 flags 3\n" + "".join([f"function {at}\n" + "  if 2 10\n" * 10 for at in range(6)])
        self.assertEqual(written(GREATEST), wanted)

    def test_by_name(self):
        self.assertEqual(written(program=PAIR), PAIR_TEXT)
        self.assertEqual(read(text=PAIR_TEXT), PAIR)

    def test_no_program(self):
        for wrong in NO_PROGRAMS + [PAIR_TEXT]:
            with self.assertRaises(NoProgram):
                written(wrong)


class ReadTest(unittest.TestCase):
    def assert_wrong(self, text, line):
        with self.assertRaises(NoText) as caught:
            read(text)
        self.assertEqual(caught.exception.line, line, text)
        self.assertIs(type(caught.exception.line), int)

    def test_texts(self):
        self.assertEqual(read(PAIR_TEXT), PAIR)
        self.assertEqual(read(ALL_TEXT), ALL_WORDS)
        self.assertEqual(repr(read(ALL_TEXT)), repr(ALL_WORDS))
        for program in (GREATEST, functions_of(works(10)), one_function(("go",))):
            self.assertEqual(read(written(program)), program)

    def test_generated_programs(self):
        for program, _ in EXAMPLES + generated_runs(100) + calm_runs(100) + looping_runs(100) + lock_runs(20):
            text = written(program)
            self.assertEqual(read(text), program)
            self.assertEqual(reference_read(text), program)
            self.assertTrue(is_program(read(text)))

    def test_the_last_line_without_its_end(self):
        self.assertEqual(read(PAIR_TEXT[:-1]), PAIR)
        self.assertEqual(read(PAIR_TEXT[:-1] + "#"), PAIR)
        self.assertEqual(read(PAIR_TEXT + "  "), PAIR)
        self.assert_wrong(PAIR_TEXT[:-1] + "s", 8)

    def test_more_blanks(self):
        for blanks in (" ", "  ", " " * 60):
            text = PAIR_TEXT.replace(" ", blanks).replace("\n", blanks + "\n" + blanks)
            self.assertEqual(read(text), PAIR)
            self.assertEqual(read(blanks + ALL_TEXT.replace(" ", blanks)), ALL_WORDS)
        # None before a word.
        self.assertEqual(read(ALL_TEXT.replace("\n  ", "\n")), ALL_WORDS)

    def test_empty_lines_and_remarks(self):
        for line in ("", "  ", "#", "# a remark", "   # locks 9 flags 9", "#ask", "## function 1 #"):
            for number in range(1, 10):
                self.assertEqual(read(with_more(PAIR_TEXT, number, line)), PAIR)
            self.assertEqual(read(PAIR_TEXT.replace("\n", "\n" + line + "\n")), PAIR)
        for remark in (" # more", "# more", "#", "   ## 1 2 3", "#\t\r\u20ac\u00a0"):
            self.assertEqual(read(PAIR_TEXT.replace("\n", remark + "\n")), PAIR)
            self.assertEqual(read(ALL_TEXT.replace("\n", remark + "\n")), ALL_WORDS)

    def test_a_remark_takes_all_behind_it(self):
        self.assert_wrong(with_line(PAIR_TEXT, 4, "  work # 5"), 4)
        self.assert_wrong(with_line(PAIR_TEXT, 1, "locks 0 # flags 0"), 1)
        self.assertEqual(read(with_line(PAIR_TEXT, 4, "  work 5 # 6")), PAIR)
        self.assertEqual(read(with_line(PAIR_TEXT, 4, "  work 5#6")), PAIR)

    def test_what_is_no_string(self):
        for wrong in (None, True, False, 0, 1, b"locks 0 flags 0", [], [PAIR_TEXT], (), (PAIR_TEXT,), {}, PAIR):
            self.assert_wrong(wrong, 0)

    def test_lines_with_none_of_the_forms(self):
        for line in ("asks", "Ask", "ASK", "end", "0", "ask 0", "stop 1", "go 0", "leave 2", "work", "work 1 1",
                     "work x", "work 1x", "work -1", "work +1", "work 1.0", "work 1,0", "work 1_0", "jump",
                     "jump 0 0", "branch", "branch 0 1", "call", "call 1 2", "take", "take 0 0", "free", "safe",
                     "safe 0", "safe take", "safetake 0", "safe free 0", "take safe 0", "safe safe take 0",
                     "safe take 0 0", "raise", "lower", "if", "if 0", "if 0 1 2", "function", "function 0 1",
                     "locks", "locks 0", "flags 0", "; ask", "ask ask", "ask; ask", "work1", "work 1 ask",
                     "ask()", "'ask'", "\"ask\"", "None", "True"):
            for number in range(2, 10):
                self.assert_wrong(with_more(ALL_TEXT, number, line), number)
                self.assert_wrong(with_more(ALL_TEXT, number, "  " + line), number)

    def test_heads_with_none_of_the_forms(self):
        for line in ("locks 0", "locks 0 flags", "locks flags", "locks 0 0", "flags 0 locks 0", "locks 0 flags 0 0",
                     "lock 0 flag 0", "locks 0 0 flags 0", "Locks 0 Flags 0", "0 0", "locks x flags 0",
                     "locks 0 flags x", "locks0 flags0", "locks 0, flags 0", "locks flags 0 0", "locks 0 locks 0",
                     "locks 4 flags 0", "locks 0 flags 4", "locks 65536 flags 0", "locks 00 flags 0",
                     "locks 0 flags 01", "locks -1 flags 0", "locks  flags 0", "ask", "  ask", "function 0"):
            self.assert_wrong(with_line(PAIR_TEXT, 1, line), 1)
            self.assert_wrong("\n" + with_line(PAIR_TEXT, 1, line), 2)

    def test_numbers(self):
        text = one_function(("work", 1), ("work", 10), ("jump", 0))
        self.assertEqual(read(written(text)), text)
        for figures in ("01", "00", "000", "07", "0007", "", "-1", "+1", "1 0", "\u0661", "\u00b2", "\uff11", "x",
                        "1e1", "0x1"):
            self.assert_wrong(with_line(PAIR_TEXT, 4, f"  work {figures}"), 4)
            self.assert_wrong(with_line(ALL_TEXT, 5, f"  jump {figures}"), 5)
        self.assert_wrong(with_line(ALL_TEXT, 13, "  if 01 4"), 13)
        self.assert_wrong(with_line(ALL_TEXT, 13, "  if 1 04"), 13)
        self.assert_wrong(with_line(PAIR_TEXT, 2, "function 00"), 2)

    def test_long_numbers(self):
        for figures in ("65535", "65536", "1" * 20, "9" * 999, "1" + "0" * 8000):
            self.assert_wrong(with_line(PAIR_TEXT, 1, f"locks {figures} flags 0"), 1)
            self.assert_wrong(with_line(PAIR_TEXT, 1, f"locks 0 flags {figures}"), 1)
            self.assert_wrong(with_line(PAIR_TEXT, 6, f"function {figures}"), 6)
            for line in ("work", "take", "free", "safe take", "raise", "lower", "jump", "branch", "call"):
                self.assert_wrong(with_line(ALL_TEXT, 4, f"{line} {figures}"), 4)
            self.assert_wrong(with_line(ALL_TEXT, 13, f"if {figures} 0"), 13)
            self.assert_wrong(with_line(ALL_TEXT, 13, f"if 0 {figures}"), 13)
            # A place and a function may be that great until all lines are looked at.
            for word in ("jump", "branch", "call", "if 0"):
                text = with_line(ALL_TEXT, 4, f"{word} {figures}")
                self.assert_wrong(with_line(text, 18, "  work 0"), 18)
            self.assert_wrong("locks 0 flags 0\n" + "0" * 5000, 2)

    def test_other_signs(self):
        for sign in ("\t", "\r", "\v", "\f", "\u00a0", "\u2003", "\u2028", "\x85", "\x1c", "\x00", ".", ",", ";", "-"):
            for line in (f"{sign}  stop", f"  stop{sign}", f"  st{sign}op", sign, f"  {sign} stop", f"  stop {sign}"):
                self.assert_wrong(with_line(PAIR_TEXT, 3, line), 3)
            self.assert_wrong(with_line(PAIR_TEXT, 4, f"  work{sign}5"), 4)
            self.assert_wrong(with_line(PAIR_TEXT, 4, f"  work 5{sign}"), 4)
            self.assert_wrong(with_line(PAIR_TEXT, 1, f"locks 0{sign}flags 0"), 1)
            self.assert_wrong(with_more(PAIR_TEXT, 5, sign), 5)
        self.assert_wrong(PAIR_TEXT.replace("\n", "\r\n"), 1)
        self.assert_wrong(with_line(ALL_TEXT, 9, "  safe\ttake 2"), 9)

    def test_heads_behind_other_lines(self):
        for number in range(2, 10):
            for line in ("locks 0 flags 0", "locks 3 flags 3"):
                self.assert_wrong(with_more(PAIR_TEXT, number, line), number)
        self.assert_wrong("locks 0 flags 0\nlocks 0 flags 0\nfunction 0\nask", 2)

    def test_lines_without_a_head(self):
        for line in ("function 0", "ask", "  work 5", "what", "safe take 0"):
            for ahead in ("", "\n", "# locks 0 flags 0\n", "  \n\n"):
                self.assert_wrong(ahead + line + "\n" + PAIR_TEXT, ahead.count("\n") + 1)

    def test_numbers_of_functions(self):
        for figures in ("0", "2", "3", "10"):
            self.assert_wrong(with_line(PAIR_TEXT, 6, f"function {figures}"), 6)
        for figures in ("1", "2", "6"):
            self.assert_wrong(with_line(PAIR_TEXT, 2, f"function {figures}"), 2)

    def test_a_seventh_function(self):
        text = "locks 0 flags 0\n" + "".join([f"function {at}\n  go\n" for at in range(7)])
        self.assert_wrong(text, 14)
        self.assertEqual(len(read("\n".join(text.split("\n")[:13]))[2]), 6)

    def test_instructions_without_a_function(self):
        for line in ("ask", "work 5", "jump 0", "what"):
            self.assert_wrong(f"locks 3 flags 3\n{line}\nfunction 0\n  go\n", 2)

    def test_an_eleventh_instruction(self):
        text = "locks 0 flags 0\nfunction 0\n" + "  ask\n" * 10
        self.assertEqual(read(text), functions_of((("ask",),) * 10))
        for line in ("  ask", "  jump 0", "  ask 1", "  work 0"):
            self.assert_wrong(text + line, 13)
            self.assert_wrong(text + "\n# ten\n" + line + "\nfunction 1\n  go", 15)
        self.assertEqual(read(text + "function 1\n" + "  go\n" * 10), functions_of((("ask",),) * 10, (("go",),) * 10))

    def test_weights_locks_and_flags(self):
        for weight in (0, 100, 101, 999, 65536):
            self.assert_wrong(with_line(PAIR_TEXT, 4, f"  work {weight}"), 4)
        for weight in (1, 99):
            self.assertEqual(read(with_line(PAIR_TEXT, 4, f"  work {weight}"))[2][0][1], ("work", weight))
        for many in range(4):
            for line, head in (("take", "locks {} flags 3"), ("free", "locks {} flags 3"),
                               ("safe take", "locks {} flags 3"), ("raise", "locks 3 flags {}"),
                               ("lower", "locks 3 flags {}"), ("if", "locks 3 flags {}")):
                more = " 0" if line == "if" else ""
                for number in range(5):
                    text = head.format(many) + f"\nfunction 0\n  go\n  {line} {number}{more}\n"
                    if number < many:
                        self.assertEqual(read(text)[2][0][1][:2], (line, number))
                    else:
                        self.assert_wrong(text, 4)

    def test_places(self):
        for line in ("jump {}", "branch {}", "if 1 {}"):
            for place in range(5):
                self.assertEqual(read(with_line(ALL_TEXT, 13, line.format(place)))[2][1][0][-1], place)
            for place in (5, 6, 10, 11, 65536):
                self.assert_wrong(with_line(ALL_TEXT, 13, line.format(place)), 13)

    def test_calls(self):
        for function, number in ((0, 3), (1, 13), (2, 18)):
            for called in range(5):
                text = with_line(ALL_TEXT, number, f"  call {called}")
                if function < called < 3:
                    self.assertIn(("call", called), read(text)[2][function])
                else:
                    self.assert_wrong(text, number)

    def test_functions_without_an_instruction(self):
        self.assert_wrong("locks 0 flags 0\nfunction 0", 2)
        self.assert_wrong("locks 0 flags 0\nfunction 0\nfunction 1\n  go", 2)
        self.assert_wrong("locks 0 flags 0\nfunction 0\n  go\n\nfunction 1\n# go\n", 5)

    def test_without_a_head_or_a_function(self):
        for text, line in (("", 1), ("\n", 2), ("\n\n", 3), ("# none", 2), ("# none\n", 2), ("  ", 2), ("\n  ", 3),
                           ("locks 0 flags 0", 2), ("locks 0 flags 0\n", 2), ("\nlocks 0 flags 0\n\n\n", 5),
                           ("locks 3 flags 3 # none\n#", 3)):
            self.assert_wrong(text, line)

    def test_two_wrong_lines(self):
        # What is wrong by itself or its place comes first, then what all lines together show.
        late = ("  jump 5", "  branch 11", "  if 0 99", "  call 3", "  call 1")
        for early in ("  work 0", "  what", "\task", "  take 3", "locks 0 flags 0", "function 3", "  jump 01"):
            for line in late:
                for first, second in ((13, 14), (14, 13)):
                    text = with_line(with_line(ALL_TEXT, first, early), second, line)
                    self.assert_wrong(text, first)
        for one in late:
            for other in late:
                self.assert_wrong(with_line(with_line(ALL_TEXT, 13, one), 14, other), 13)
        empty = "locks 0 flags 0\nfunction 0\n  {}\nfunction 1\nfunction 2\n  {}\n"
        self.assert_wrong(empty.format("jump 2", "go"), 3)
        self.assert_wrong(empty.format("go", "jump 2"), 4)
        self.assert_wrong(empty.format("go", "work 0"), 6)
        self.assert_wrong(empty.format("call 3", "call 2"), 3)
        # The first two of one kind.
        self.assert_wrong(with_line(with_line(ALL_TEXT, 13, "what"), 4, "work 0"), 4)

    def test_places_are_looked_at_when_the_function_is_whole(self):
        text = "locks 0 flags 0\nfunction 0\n  jump 3\n  go\n"
        self.assert_wrong(text, 3)
        self.assertEqual(read(text + "  go\n"), one_function(("jump", 3), ("go",), ("go",)))
        # Two instructions more, in another function, are none of this one.
        self.assert_wrong(text + "function 1\n  go\n  go\n", 3)

    def test_changed_texts(self):
        source = random.Random(5)
        texts = [written(program) for program, _ in EXAMPLES + generated_runs(40)] + [ALL_TEXT, PAIR_TEXT]
        seen = []
        for text in texts * 40:
            for _ in range(source.randint(1, 3)):
                text = changed(source, text)
            wanted = reference_read(text)
            if isinstance(wanted, int):
                self.assert_wrong(text, wanted)
                seen.append("wrong")
            else:
                self.assertEqual(read(text), wanted)
                self.assertEqual(read(written(read(text))), wanted)
                seen.append("right")
        self.assertGreater(seen.count("wrong"), 500)
        self.assertGreater(seen.count("right"), 200)


def changed(source, text):
    """The text with one change by chance."""
    lines = text.split("\n")
    at = source.randrange(len(lines))
    place = source.randint(0, len(text))
    deed = source.randint(0, 7)
    if deed == 0:
        return text[:place] + source.choice(" \t#0123456789k\n\r ") + text[place:]
    if deed == 1:
        return text[:place] + text[place + 1:]
    if deed == 2:
        del lines[at]
    elif deed == 3:
        lines.insert(at, source.choice(lines))
    elif deed == 4:
        lines[at] = " ".join(lines[at].split(" ")[:-1] + [str(source.randint(0, 12))])
    elif deed == 5:
        lines[at] = source.choice(["  jump 3", "call 2", "take 0", "  if 0 4", "work 100", "safe take 1", "ask", ""])
    elif deed == 6:
        lines[at] = lines[at].replace(" ", "   ") + source.choice([" ", "# more", "  #"])
    else:
        other = source.randrange(len(lines))
        lines[at], lines[other] = lines[other], lines[at]
    return "\n".join(lines)
