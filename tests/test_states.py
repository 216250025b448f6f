"""The first state, and what has the form of a state."""

import unittest

from standasked.errors import NoState
from standasked.states import first_state, steps
from tests.samples import ALL_WORDS, NO_NUMBERS, PAIR, functions_of, works

# Function 0 calls 1 at its places 0 and 2, and 2 at 1; 1 calls 2 at 1.
CALLS = (2, 1, ((("call", 1), ("call", 2), ("call", 1)), (("ask",), ("call", 2)), works(2)))
STARTS = (0, 1)

THREADS = (((0, 0), (1, 1), (2, 2)), ((1, 0),))
GOOD = (THREADS, (1, 0), (1, None), (1,), 0)


class FirstStateTest(unittest.TestCase):
    def test_all_threads_begin(self):
        self.assertEqual(first_state(PAIR, (0, 1)), ((((0, 0),), ((1, 0),)), (0, 0), (), (), None))

    def test_locks_and_flags(self):
        wanted = ((((2, 0),), ((0, 0),), ((2, 0),)), (0, 0, 0), (None,) * 3, (0, 0, 0), None)
        self.assertEqual(first_state(ALL_WORDS, (2, 0, 2)), wanted)

    def test_by_name(self):
        self.assertEqual(first_state(starts=(1,), program=PAIR), first_state(PAIR, (1,)))

    def test_it_has_no_booleans(self):
        state = first_state(ALL_WORDS, (0, 1, 2, 0))
        for number in state[1] + state[3]:
            self.assertIs(type(number), int)


class FormTest(unittest.TestCase):
    def assert_state(self, *state):
        self.assertIsInstance(steps(CALLS, STARTS, state), list)

    def assert_no_state(self, *state):
        with self.assertRaises(NoState):
            steps(CALLS, STARTS, state)

    def assert_no_stack(self, stack):
        self.assert_no_state((stack, ((1, 0),)), *GOOD[1:])

    def test_a_state(self):
        self.assert_state(*GOOD)

    def test_things_of_other_kinds(self):
        for wrong in NO_NUMBERS + [0, GOOD[:4], GOOD + (None,), list(GOOD), {GOOD: 1}]:
            with self.assertRaises(NoState):
                steps(CALLS, STARTS, wrong)

    def test_parts_of_other_kinds(self):
        for wrong in NO_NUMBERS + [0, 1, (0, 0, 0, 0, 0), [None, None], [0, 0]]:
            for at in range(4):
                if at == 3 and wrong in ((0,), (1,)) and isinstance(wrong, tuple):
                    continue
                state = GOOD[:at] + (wrong,) + GOOD[at + 1:]
                self.assert_no_state(*state)
        for at in range(4):
            self.assert_no_state(*GOOD[:at], list(GOOD[at]), *GOOD[at + 1:])

    def test_one_stack_for_each_thread(self):
        self.assert_no_state((), (1, 0), *GOOD[2:])
        self.assert_no_state(THREADS[:1], (1, 0), *GOOD[2:])
        self.assert_no_state(THREADS + THREADS[1:], (1, 0), *GOOD[2:])
        self.assert_no_state(THREADS[:1], (1,), (None, None), (0,), None)
        self.assert_no_state(THREADS + ((),), (1, 0, 0), *GOOD[2:])

    def test_stacks_of_other_kinds(self):
        for wrong in NO_NUMBERS + [0, [(0, 0)], {(0, 0): 1}, "00", ((0, 0), None), (None,)]:
            if wrong == () and isinstance(wrong, tuple):
                continue
            self.assert_no_stack(wrong)

    def test_frames_of_other_kinds(self):
        for wrong in NO_NUMBERS + [0, [0, 0], (0, 0, 0), (0,), ((0, 0),), {0: 0, 1: 0}, "00"]:
            self.assert_no_stack((wrong,))
            self.assert_no_stack(((0, 0), wrong))
            self.assert_no_stack(((0, 0), (1, 1), wrong))

    def test_numbers_in_frames(self):
        for wrong in NO_NUMBERS + [3]:
            self.assert_no_stack(((wrong, 0),))
            self.assert_no_stack(((0, 0), (wrong, 0)))
        for wrong in NO_NUMBERS + [4]:
            self.assert_no_stack(((0, wrong),))
            self.assert_no_stack(((0, 0), (1, wrong)))
            self.assert_no_stack(((0, wrong), (1, 0)))

    def test_places_from_0_to_the_end(self):
        for place in range(4):
            self.assert_state((((0, place),), ()), (0, 0), (None, None), (0,), None)
        self.assert_no_stack(((0, 4),))
        for place in range(3):
            self.assert_state((((0, 0), (1, place)), ()), (0, 0), (None, None), (0,), None)
        self.assert_no_stack(((0, 0), (1, 3)))

    def test_first_frames_are_of_the_starts(self):
        self.assert_no_stack(((1, 0),))
        self.assert_no_stack(((2, 0),))
        self.assert_no_stack(((1, 1), (2, 0)))
        self.assert_no_state((((0, 0),), ((0, 0),)), *GOOD[1:])
        self.assert_state((((0, 0),), ()), (0, 0), *GOOD[2:])

    def test_frames_below_stand_at_calls_of_the_next_one(self):
        for stack in (((0, 0), (1, 0)), ((0, 1), (2, 0)), ((0, 2), (1, 1), (2, 0)),
                      ((0, 2), (1, 2))):
            self.assert_state((stack, ()), (0, 0), (None, None), (0,), None)
        for stack in (((0, 0), (2, 0)), ((0, 1), (1, 0)), ((0, 3), (1, 0)), ((0, 3), (2, 0)),
                      ((0, 0), (1, 0), (2, 0)), ((0, 0), (1, 2), (2, 0)), ((0, 0), (0, 0)),
                      ((0, 1), (2, 0), (2, 0)), ((0, 0), (1, 1), (2, 2), (2, 0))):
            self.assert_no_stack(stack)

    def test_outs_are_0_or_1(self):
        for out in (0, 1):
            self.assert_state(THREADS, (out, 1 - out), *GOOD[2:])
        for wrong in NO_NUMBERS + [2]:
            self.assert_no_state(THREADS, (wrong, 0), *GOOD[2:])
            self.assert_no_state(THREADS, (0, wrong), *GOOD[2:])
        self.assert_no_state(THREADS, (0,), *GOOD[2:])
        self.assert_no_state(THREADS, (0, 0, 0), *GOOD[2:])

    def test_threads_that_are_done_are_not_outside(self):
        self.assert_state((THREADS[0], ()), (1, 0), *GOOD[2:])
        self.assert_no_state((THREADS[0], ()), (0, 1), *GOOD[2:])
        self.assert_no_state(((), ()), (1, 0), *GOOD[2:])

    def test_locks_are_held_by_threads(self):
        for locks in ((None, None), (0, None), (None, 1), (1, 1), (0, 1)):
            self.assert_state(THREADS, (0, 0), locks, (0,), None)
            self.assert_state((THREADS[0], ()), (0, 0), locks, (0,), None)
        for wrong in NO_NUMBERS + [2]:
            if wrong is None:
                continue
            self.assert_no_state(THREADS, (0, 0), (wrong, None), (0,), None)
            self.assert_no_state(THREADS, (0, 0), (0, wrong), (0,), None)
        self.assert_no_state(THREADS, (0, 0), (None,), (0,), None)
        self.assert_no_state(THREADS, (0, 0), (None,) * 3, (0,), None)

    def test_flags_are_0_or_1(self):
        for flag in (0, 1):
            self.assert_state(THREADS, (0, 0), (None, None), (flag,), None)
        for wrong in NO_NUMBERS + [2]:
            self.assert_no_state(THREADS, (0, 0), (None, None), (wrong,), None)
        self.assert_no_state(THREADS, (0, 0), (None, None), (), None)
        self.assert_no_state(THREADS, (0, 0), (None, None), (0, 0), None)

    def test_the_asker_is_a_thread(self):
        for asker in (None, 0, 1):
            self.assert_state(*GOOD[:4], asker)
            self.assert_state(((), ()), (0, 0), (0, 1), (0,), asker)
        for wrong in NO_NUMBERS + [2]:
            if wrong is None:
                continue
            self.assert_no_state(*GOOD[:4], wrong)

    def test_four_threads(self):
        program = functions_of(works(1))
        state = (((), ((0, 0),), ((0, 1),), ()), (0, 1, 1, 0), (), (), 3)
        self.assertEqual(len(steps(program, (0, 0, 0, 0), state)), 2)
        with self.assertRaises(NoState):
            steps(program, (0, 0, 0), state)
