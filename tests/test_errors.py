"""The errors of the interface, and which one is raised."""

import unittest

from standasked import errors
from standasked.errors import NoKept, NoProgram, NoStarts, NoState, StandError, TooMany
from standasked.programs import askings, without
from standasked.states import all_states, are_all_states, first_state, steps
from tests.samples import NO_PROGRAMS, PAIR, functions_of, works

NAMES = ["NoProgram", "NoStarts", "NoState", "NoKept", "NoPrices", "NoNumber",
         "NoThread", "NoPlace", "NoMove", "TooMany"]

# 12 ** 4 states.
HUGE = functions_of(works(10))
HUGE_STARTS = (0, 0, 0, 0)


class ErrorsTest(unittest.TestCase):
    def test_stand_error_is_directly_derived_from_value_error(self):
        self.assertEqual(StandError.__bases__, (ValueError,))

    def test_all_others_are_directly_derived_from_stand_error(self):
        for name in NAMES:
            self.assertEqual(getattr(errors, name).__bases__, (StandError,), name)

    def test_each_is_made_from_a_text(self):
        for name in ["StandError"] + NAMES:
            error = getattr(errors, name)("what is wrong")
            self.assertEqual(str(error), "what is wrong")
            self.assertEqual(error.args, ("what is wrong",))

    def test_the_module_has_no_other_errors(self):
        found = [name for name, thing in vars(errors).items() if isinstance(thing, type)]
        self.assertEqual(sorted(found), sorted(["StandError"] + NAMES))


class EarliestErrorTest(unittest.TestCase):
    def assert_raises_just(self, wanted, function, *arguments):
        with self.assertRaises(StandError) as caught:
            function(*arguments)
        self.assertIs(type(caught.exception), wanted)
        self.assertIsInstance(caught.exception.args[0], str)

    def test_a_wrong_program_comes_first(self):
        for program in NO_PROGRAMS:
            self.assert_raises_just(NoProgram, askings, program)
            self.assert_raises_just(NoProgram, without, program, None)
            self.assert_raises_just(NoProgram, without, program, [])
            self.assert_raises_just(NoProgram, first_state, program, (0,))
            self.assert_raises_just(NoProgram, first_state, program, None)
            self.assert_raises_just(NoProgram, steps, program, None, None)
            self.assert_raises_just(NoProgram, all_states, program, [0])
            self.assert_raises_just(NoProgram, are_all_states, program, (), {})

    def test_wrong_starts_come_next(self):
        self.assert_raises_just(NoStarts, first_state, PAIR, (2,))
        self.assert_raises_just(NoStarts, steps, PAIR, (), None)
        self.assert_raises_just(NoStarts, all_states, PAIR, (True,))
        self.assert_raises_just(NoStarts, are_all_states, PAIR, [0], None)

    def test_then_the_last_argument(self):
        self.assert_raises_just(NoState, steps, PAIR, (0, 1), None)
        self.assert_raises_just(NoKept, without, PAIR, None)

    def test_too_many_comes_last(self):
        self.assert_raises_just(NoProgram, all_states, (0, 0, (works(11),)), HUGE_STARTS)
        self.assert_raises_just(NoStarts, all_states, HUGE, (0, 0, 0, 0, 0))
        self.assert_raises_just(NoStarts, are_all_states, HUGE, (0, 0, 0, 1), {})
        self.assert_raises_just(TooMany, all_states, HUGE, HUGE_STARTS)
        self.assert_raises_just(TooMany, are_all_states, HUGE, HUGE_STARTS, {})

    def test_too_many_is_no_matter_of_one_step(self):
        state = first_state(HUGE, HUGE_STARTS)
        self.assertEqual(len(steps(HUGE, HUGE_STARTS, state)), 4)
