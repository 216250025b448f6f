"""What a program is, and what starts are."""

import unittest

from standasked.errors import NoStarts
from standasked.programs import is_program
from standasked.states import all_states, are_all_states, first_state, steps
from tests.samples import (ALL_WORDS, EXAMPLES, NO_NUMBERS, NO_PROGRAMS, PAIR, functions_of,
                           one_function, works)

NUMBERED = [("work", 1), ("branch", 0), ("jump", 0), ("call", 1), ("take", 0), ("free", 0),
            ("safe take", 0), ("raise", 0), ("lower", 0), ("if", 0, 0)]
BARE = [("ask",), ("leave",), ("stop",), ("go",)]


def holder(instruction, locks=3, flags=3, length=1, at=0, many=2):
    """A program with the instruction at the beginning of function at."""
    functions = [works(length)] * many
    functions[at] = (instruction,) + works(length - 1)
    return (locks, flags, tuple(functions))


class ProgramTest(unittest.TestCase):
    def assert_program(self, thing):
        self.assertIs(is_program(thing), True, thing)

    def assert_no_program(self, thing):
        self.assertIs(is_program(thing), False, thing)

    def test_examples_are_programs(self):
        for program, _ in EXAMPLES:
            self.assert_program(program)
        self.assert_program(ALL_WORDS)

    def test_thing_may_be_named(self):
        self.assertIs(is_program(thing=PAIR), True)
        self.assertIs(is_program(thing=None), False)

    def test_values_of_other_kinds_are_none(self):
        for thing in NO_PROGRAMS:
            self.assert_no_program(thing)

    def test_locks_and_flags_from_0_to_3(self):
        for locks in range(4):
            for flags in range(4):
                self.assert_program((locks, flags, (works(1),)))
        for wrong in NO_NUMBERS + [4]:
            self.assert_no_program((wrong, 0, (works(1),)))
            self.assert_no_program((0, wrong, (works(1),)))

    def test_1_to_6_functions(self):
        for many in range(1, 7):
            self.assert_program(functions_of(*[works(1)] * many))
        self.assert_no_program(functions_of())
        self.assert_no_program(functions_of(*[works(1)] * 7))

    def test_functions_are_a_tuple_of_tuples(self):
        for wrong in NO_NUMBERS + [0, list(works(1)), {0: ("ask",)}, "work", ("work", 1)]:
            self.assert_no_program((0, 0, wrong))
            self.assert_no_program((0, 0, (wrong,)))
            self.assert_no_program((0, 0, (works(1), wrong)))
        self.assert_no_program((0, 0, [works(1)]))
        self.assert_no_program((0, 0, {works(1): works(1)}))

    def test_1_to_10_instructions(self):
        for many in range(1, 11):
            self.assert_program(functions_of(works(many)))
        self.assert_no_program(functions_of(()))
        self.assert_no_program(functions_of(works(11)))
        self.assert_no_program(functions_of(works(1), ()))
        self.assert_no_program(functions_of(works(1), works(11)))

    def test_each_instruction_in_its_form(self):
        for instruction in NUMBERED + BARE:
            self.assert_program(holder(instruction))

    def test_too_few_or_too_many_numbers(self):
        for instruction in NUMBERED + BARE:
            self.assert_no_program(holder(instruction + (0,)))
            self.assert_no_program(holder(instruction + (1,)))
            self.assert_no_program(holder(instruction[:-1]))

    def test_instructions_of_other_kinds(self):
        for instruction in NUMBERED + BARE:
            self.assert_no_program(holder(list(instruction)))
            self.assert_no_program(holder({0: instruction}))
            self.assert_no_program(holder((instruction,)))
        for wrong in NO_NUMBERS + [0, "ask", "stop"]:
            self.assert_no_program(holder(wrong))

    def test_words_of_other_kinds(self):
        for word in NO_NUMBERS + [0, "safetake", "safe  take", "Ask", "ask ", "halt", "a" * 1000]:
            if word == "work":
                continue
            self.assert_no_program(holder((word,)))
            self.assert_no_program(holder((word, 1)))
            self.assert_no_program(holder((word, 0, 0)))

    def test_numbers_of_other_kinds(self):
        for instruction in NUMBERED:
            for at in range(1, len(instruction)):
                for wrong in NO_NUMBERS + [[1], (0, 0)]:
                    changed = instruction[:at] + (wrong,) + instruction[at + 1:]
                    self.assert_no_program(holder(changed))

    def test_a_wrong_instruction_at_any_place(self):
        for place in range(10):
            good = works(10)
            bad = good[:place] + (("work", True),) + good[place + 1:]
            for at in range(6):
                functions = [good] * 6
                self.assert_program(functions_of(*functions))
                functions[at] = bad
                self.assert_no_program(functions_of(*functions))

    def test_weights_from_1_to_99(self):
        for weight in (1, 2, 98, 99):
            self.assert_program(holder(("work", weight)))
        for weight in (0, 100, 65535):
            self.assert_no_program(holder(("work", weight)))

    def test_places_from_0_to_the_end(self):
        for length in (1, 2, 10):
            for word in (("branch",), ("jump",), ("if", 0)):
                for place in range(length + 1):
                    self.assert_program(holder(word + (place,), length=length))
                self.assert_no_program(holder(word + (length + 1,), length=length))

    def test_the_end_is_that_of_the_own_function(self):
        self.assert_program(functions_of((("jump", 3), ("ask",), ("ask",)), (("jump", 1),)))
        self.assert_no_program(functions_of((("jump", 3),), works(5)))
        self.assert_no_program(functions_of(works(5), (("jump", 2),)))

    def test_calls_of_greater_functions_alone(self):
        for many in range(1, 7):
            for at in range(many):
                for called in range(7):
                    program = holder(("call", called), at=at, many=many)
                    self.assertIs(is_program(program), at < called < many, program)

    def test_locks_and_flags_that_there_are(self):
        for many in range(4):
            for one in range(5):
                for word in ("take", "free", "safe take"):
                    program = holder((word, one), locks=many)
                    self.assertIs(is_program(program), one < many, program)
                for word in ("raise", "lower"):
                    program = holder((word, one), flags=many)
                    self.assertIs(is_program(program), one < many, program)
                program = holder(("if", one, 0), flags=many)
                self.assertIs(is_program(program), one < many, program)

    def test_locks_are_no_flags(self):
        self.assert_program(one_function(("take", 2), locks=3))
        self.assert_no_program(one_function(("take", 2), flags=3))
        self.assert_program(one_function(("raise", 2), flags=3))
        self.assert_no_program(one_function(("raise", 2), locks=3))

    def test_deep_and_long_things(self):
        deep = ()
        for _ in range(9):
            deep = (deep,)
        for thing in (deep, [0] * 2000, tuple([0] * 2000), {number: 0 for number in range(2000)}):
            self.assert_no_program(thing)
            self.assert_no_program((0, 0, thing))
            self.assert_no_program((thing, 0, (works(1),)))
            self.assert_no_program(holder(("work", thing)))


class StartsTest(unittest.TestCase):
    def assert_no_starts(self, program, starts):
        for function in (first_state, all_states):
            with self.assertRaises(NoStarts):
                function(program, starts)
        with self.assertRaises(NoStarts):
            steps(program, starts, first_state(program, (0,)))
        with self.assertRaises(NoStarts):
            are_all_states(program, starts, {})

    def test_1_to_4_numbers_of_functions(self):
        program = functions_of(*[works(1)] * 6)
        for starts in ((0,), (5,), (0, 5), (1, 2, 3), (5, 4, 3, 2)):
            self.assertEqual(len(first_state(program, starts)[0]), len(starts))
        self.assert_no_starts(program, ())
        self.assert_no_starts(program, (0, 1, 2, 3, 4))

    def test_one_function_several_times(self):
        self.assertEqual(first_state(PAIR, (1, 1, 1, 1))[0], (((1, 0),),) * 4)

    def test_functions_that_there_are_not(self):
        self.assert_no_starts(PAIR, (2,))
        self.assert_no_starts(PAIR, (0, 2))
        self.assert_no_starts(one_function(("ask",)), (1,))

    def test_starts_of_other_kinds(self):
        for wrong in NO_NUMBERS + [0, [0, 1], "01", {0: 1}]:
            if wrong in ((0,), (1,)) and isinstance(wrong, tuple):
                continue
            self.assert_no_starts(PAIR, wrong)

    def test_numbers_of_other_kinds(self):
        for wrong in NO_NUMBERS:
            self.assert_no_starts(PAIR, (wrong,))
            self.assert_no_starts(PAIR, (0, wrong))
            self.assert_no_starts(PAIR, (0, 1, 1, wrong))
