"""The errors of the interface, and which one is raised."""

import itertools
import unittest

from standasked import errors
from standasked.askings import cheapest, may_go
from standasked.errors import (NoKept, NoMove, NoNumber, NoPlace, NoPrices, NoProgram, NoStarts,
                               NoState, NoThread, StandError, TooMany)
from standasked.machines import Machine
from standasked.plans import Plan
from standasked.programs import askings, without
from standasked.rounds import gap_schedule, gaps, most_stops, overtaken
from standasked.safes import cheapest_safe, safe, takes
from standasked.standing import chain, stand_schedule, standing, waits_for
from standasked.states import all_states, are_all_states, first_state, steps
from standasked.stops import judge, lates, rests, share_schedule, shares, shows_rests
from standasked.texts import written
from tests.samples import (NO_NUMBERS, NO_PROGRAMS, PAIR, STATES_2000, STATES_2001, TAKES_2008, UP_TO_2000,
                           functions_of, with_takes, works)

NAMES = ["NoProgram", "NoStarts", "NoState", "NoKept", "NoPrices", "NoNumber",
         "NoThread", "NoPlace", "NoMove", "TooMany"]

# 12 ** 4 states.
HUGE = functions_of(works(10))
HUGE_STARTS = (0, 0, 0, 0)


class ErrorsTest(unittest.TestCase):
    def test_stand_error_is_directly_derived_from_value_error(self):
        self.assertEqual(StandError.__bases__, (ValueError,))

    def test_all_others_are_directly_derived_from_stand_error(self):
        for name in NAMES:
            self.assertEqual(getattr(errors, name).__bases__, (StandError,), name)

    def test_each_is_made_from_a_text(self):
        for name in ["StandError"] + NAMES:
            error = getattr(errors, name)("what is wrong")
            self.assertEqual(str(error), "what is wrong")
            self.assertEqual(error.args, ("what is wrong",))

    def test_the_module_has_no_other_errors(self):
        found = [name for name, thing in vars(errors).items() if isinstance(thing, type)]
        self.assertEqual(sorted(found), sorted(["StandError"] + NAMES))


class EarliestErrorTest(unittest.TestCase):
    def assert_raises_just(self, wanted, function, *arguments):
        with self.assertRaises(StandError) as caught:
            function(*arguments)
        self.assertIs(type(caught.exception), wanted)
        self.assertIsInstance(caught.exception.args[0], str)

    def test_a_wrong_program_comes_first(self):
        for program in NO_PROGRAMS:
            self.assert_raises_just(NoProgram, askings, program)
            self.assert_raises_just(NoProgram, without, program, None)
            self.assert_raises_just(NoProgram, without, program, [])
            self.assert_raises_just(NoProgram, first_state, program, (0,))
            self.assert_raises_just(NoProgram, first_state, program, None)
            self.assert_raises_just(NoProgram, steps, program, None, None)
            self.assert_raises_just(NoProgram, all_states, program, [0])
            self.assert_raises_just(NoProgram, are_all_states, program, (), {})

    def test_wrong_starts_come_next(self):
        self.assert_raises_just(NoStarts, first_state, PAIR, (2,))
        self.assert_raises_just(NoStarts, steps, PAIR, (), None)
        self.assert_raises_just(NoStarts, all_states, PAIR, (True,))
        self.assert_raises_just(NoStarts, are_all_states, PAIR, [0], None)

    def test_then_the_last_argument(self):
        self.assert_raises_just(NoState, steps, PAIR, (0, 1), None)
        self.assert_raises_just(NoKept, without, PAIR, None)

    def test_too_many_comes_last(self):
        self.assert_raises_just(NoProgram, all_states, (0, 0, (works(11),)), HUGE_STARTS)
        self.assert_raises_just(NoStarts, all_states, HUGE, (0, 0, 0, 0, 0))
        self.assert_raises_just(NoStarts, are_all_states, HUGE, (0, 0, 0, 1), {})
        self.assert_raises_just(TooMany, all_states, HUGE, HUGE_STARTS)
        self.assert_raises_just(TooMany, are_all_states, HUGE, HUGE_STARTS, {})

    def test_too_many_is_no_matter_of_one_step(self):
        state = first_state(HUGE, HUGE_STARTS)
        self.assertEqual(len(steps(HUGE, HUGE_STARTS, state)), 4)


# A state of PAIR that no run leads to: the thread whose stop is requested is done.
STUCK = (((), ((1, 1),)), (0, 0), (), (), 0)

PROGRAMS = (NoProgram, PAIR, NO_PROGRAMS)
STARTS = (NoStarts, (0, 1), [None, True, 0, [0, 1], (), (2,), (0, True), (0, -1), (0,) * 5, {0: 1}, "01"])
STATES = (NoState, first_state(PAIR, (0, 1)), NO_NUMBERS + [[], list(STUCK), STUCK[:4] + (True,)])
THREADS = (NoThread, 1, NO_NUMBERS + [2, 65535])
LIMITS = (NoNumber, 9, NO_NUMBERS)
PRICES = (NoPrices, {(1, 1): 1}, NO_NUMBERS + [[1], {(1, 1): True}, {(1, 1): -1}, {(1, 1): 65536},
                                               {(1, 1): None}, {(1, 0): 1}, {(1, 1): 1, (0, 0): 1}])
# Function, place and locks are one argument.
STANDING_PLACES = (NoPlace, (1, 1, ()), [
    (True, 1, ()), (None, 1, ()), (2, 1, ()), (-1, 0, ()), (1, True, ()), (1, 3, ()), (1, -1, ()),
    (1, "1", ()), (1, 1, []), (1, 1, None), (1, 1, (0,)), (1, 1, (False,)), (1, 1, "0"), (1, None, None)])

# The program with a "take" at (1, 1), where PAIR has its "ask".
TAKING = (NoProgram, with_takes(PAIR), NO_PROGRAMS)
CHOSEN = (NoKept, [(1, 1)], [one for one in NO_NUMBERS if one != []] + [
    [(1, 0)], [(1, 1), (1, 1)], [(True, 1)], [(1, True)], [[1, 1]], ((1, 1),), {(1, 1): 1}, [None], [(1, 2)]])

# For each function its arguments: the error, a good value, and wrong ones.
ARGUMENTS = [
    (judge, [PROGRAMS, STARTS]), (rests, [PROGRAMS, STARTS]), (lates, [PROGRAMS, STARTS]),
    (shares, [PROGRAMS, STARTS]), (shows_rests, [PROGRAMS, STARTS, (None, {}, [])]),
    (share_schedule, [PROGRAMS, STARTS, THREADS]), (may_go, [PROGRAMS, STARTS, LIMITS]),
    (cheapest, [PROGRAMS, STARTS, PRICES, LIMITS]), (standing, [PROGRAMS, STARTS]),
    (stand_schedule, [PROGRAMS, STARTS, THREADS, STANDING_PLACES]),
    (waits_for, [PROGRAMS, STARTS, STATES]), (chain, [PROGRAMS, STARTS, STATES]),
    (Machine, [PROGRAMS, STARTS]), (most_stops, [PROGRAMS, STARTS]), (overtaken, [PROGRAMS, STARTS]),
    (gaps, [PROGRAMS, STARTS]), (gap_schedule, [PROGRAMS, STARTS, THREADS, THREADS]),
    (takes, [TAKING]), (safe, [TAKING, CHOSEN]), (cheapest_safe, [TAKING, STARTS, PRICES, LIMITS]),
    (written, [PROGRAMS]), (Plan, [PROGRAMS, STARTS]), (without, [PROGRAMS, CHOSEN]),
]


def called(function, values):
    """What a call returns, the last of four arguments being three for stand_schedule."""
    if function == stand_schedule:
        values = list(values[:3]) + list(values[3])
    return function(*values)


class ArgumentsTest(unittest.TestCase):
    def assert_raises_just(self, wanted, function, values):
        with self.assertRaises(StandError) as caught:
            called(function, values)
        self.assertIs(type(caught.exception), wanted, (function, values))

    def test_good_values(self):
        for function, arguments in ARGUMENTS:
            values = [good for _, good, _ in arguments]
            if function == chain:
                self.assert_raises_just(NoState, chain, values)
                values[2] = STUCK
            called(function, values)

    def test_each_wrong_value_of_each_argument(self):
        for function, arguments in ARGUMENTS:
            for at, (error, _, wrongs) in enumerate(arguments):
                for wrong in wrongs:
                    values = [good for _, good, _ in arguments]
                    values[at] = wrong
                    self.assert_raises_just(error, function, values)

    def test_of_several_errors_the_one_of_the_earliest_argument(self):
        for function, arguments in ARGUMENTS:
            checked = [at for at, one in enumerate(arguments) if one[0] is not None]
            for first, second in itertools.combinations(checked, 2):
                for wrong in arguments[first][2]:
                    # The first wrong value with all of the second, and with all behind.
                    for other in arguments[second][2][:4]:
                        values = [good for _, good, _ in arguments]
                        values[first] = wrong
                        values[second] = other
                        self.assert_raises_just(arguments[first][0], function, values)
                    values = [one[1] if at < first else one[2][0] if one[2] else None
                              for at, one in enumerate(arguments)]
                    values[first] = wrong
                    self.assert_raises_just(arguments[first][0], function, values)


def plan_told(program, starts):
    return Plan(program, starts).told()


def plan_keeps(program, starts, limit):
    return Plan(program, starts).keeps(limit)


class TooManyTest(unittest.TestCase):
    """2000 states and one more, and TooMany behind all other errors."""

    def calls(self, program, starts):
        return [(judge, ()), (rests, ()), (lates, ()), (shares, ()), (shows_rests, (None,)),
                (shows_rests, ({},)), (share_schedule, (0,)), (standing, ()),
                (stand_schedule, (0, 0, 0, ())), (most_stops, ()), (overtaken, ()), (gaps, ()),
                (gap_schedule, (0, 0)), (plan_told, ()), (plan_keeps, (0,))]

    def test_2000_states(self):
        for program, starts in (STATES_2000, UP_TO_2000):
            self.assertEqual(len(all_states(program, starts)), 2000)
            for function, more in self.calls(program, starts):
                function(program, starts, *more)
        self.assertEqual(judge(*STATES_2000)[:2], ("late", 0))
        self.assertEqual(lates(*STATES_2000), {(0, 0): (0, 1)})
        self.assertIs(shows_rests(*STATES_2000, rests(*STATES_2000)), True)
        self.assertIs(shows_rests(*UP_TO_2000, rests(*UP_TO_2000)), True)

    def test_one_more_and_many_more(self):
        for program, starts in (STATES_2001, (HUGE, HUGE_STARTS)):
            for function, more in self.calls(program, starts):
                with self.assertRaises(TooMany):
                    function(program, starts, *more)

    def test_behind_all_other_errors(self):
        for starts in ((), (0, 0, 0, 1)):
            for function, more in self.calls(HUGE, starts):
                with self.assertRaises(NoStarts):
                    function(HUGE, starts, *more)
        program, starts = STATES_2001
        for wrong in NO_NUMBERS + [1]:
            with self.assertRaises(NoThread):
                share_schedule(program, starts, wrong)
            with self.assertRaises(NoThread):
                stand_schedule(program, starts, wrong, 0, 0, ())
            for one, other in ((wrong, 0), (0, wrong), (wrong, wrong)):
                with self.assertRaises(NoThread):
                    gap_schedule(program, starts, one, other)
        with self.assertRaises(NoPlace):
            stand_schedule(program, starts, 0, 0, 0, (0,))
        with self.assertRaises(NoNumber):
            may_go(program, starts, True)
        with self.assertRaises(NoPrices):
            cheapest(program, starts, {}, 0)
        with self.assertRaises(NoNumber):
            cheapest(program, starts, {(0, 7): 0}, None)
        with self.assertRaises(NoNumber):
            Plan(program, starts).spare(None)
        with self.assertRaises(NoPrices):
            cheapest_safe(*TAKES_2008, {(1, 4): True}, 0)
        with self.assertRaises(NoNumber):
            cheapest_safe(*TAKES_2008, {(1, 4): 0}, True)

    def test_other_calls_do_not_look_at_all_states(self):
        for program, starts in (STATES_2001, (HUGE, HUGE_STARTS)):
            state = first_state(program, starts)
            self.assertEqual(waits_for(program, starts, state), [])
            with self.assertRaises(NoState):
                chain(program, starts, state)
            Machine(program, starts).step(0, 0)
            self.assertEqual(takes(program), [])
            self.assertEqual(safe(program, []), program)
            written(program)
            self.assertEqual(Plan(program, starts).kept(), askings(program))


class MachineErrorsTest(unittest.TestCase):
    def test_the_thread_comes_before_the_bit_and_the_bit_before_the_move(self):
        machine = Machine(PAIR, (0, 1))
        for thread in NO_NUMBERS + [2]:
            for bit in NO_NUMBERS + [0, 1, 2]:
                with self.assertRaises(NoThread):
                    machine.step(thread, bit)
        for bit in NO_NUMBERS + [2]:
            with self.assertRaises(NoNumber):
                machine.step(1, bit)
        with self.assertRaises(NoMove):
            machine.step(1, 1)
        self.assertEqual(machine.schedule(), [])
