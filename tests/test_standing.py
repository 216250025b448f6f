"""Where threads stand while a stop holds, and for what threads wait."""

import functools
import itertools
import unittest

from standasked.errors import NoPlace, NoState, NoThread, TooMany
from standasked.standing import chain, stand_schedule, standing, waits_for
from standasked.states import all_states, first_state
from tests.reference import stands, word_of, world_of
from tests.samples import (EXAMPLES, NO_NUMBERS, PAIR, STATES_2000, STATES_2001, calm_runs,
                           functions_of, generated_runs, lock_runs, mixed_runs, works)
from tests.trying import Story, TooLong, distances_of, first_of, is_holding, is_stuck

# Thread 1 takes both locks, asks with them, goes outside with one, and is done with it.
HOLDER = ((2, 0, ((("stop",), ("go",)),
                  (("take", 1), ("take", 0), ("ask",), ("free", 1), ("leave",), ("work", 3)))), (0, 1))


@functools.cache
def told_runs():
    """(program, starts, distances) of programs with not too many states."""
    found = []
    for program, starts in EXAMPLES + generated_runs(200) + calm_runs(100) + mixed_runs(200):
        try:
            found.append((program, starts, distances_of(program, first_of(program, starts), 1000)))
        except TooLong:
            pass
    return found


def standing_in(program, state):
    if not is_holding(program, state):
        return []
    return [(thread, *stack[-1], tuple([lock for lock, holder in enumerate(state[2]) if holder == thread]))
            for thread, stack in enumerate(state[0]) if stack and thread != state[4]]


def waits_in(program, state):
    """The triples of a state, as tests.reference tells its words."""
    world = world_of(state)
    found = []
    for thread, stack in enumerate(state[0]):
        if stack and not state[1][thread]:
            word = word_of(program, world, thread)
            if word[0].endswith("take") and state[2][word[1]] is not None:
                found.append((thread, word[1], state[2][word[1]]))
    return found


class StandingTest(unittest.TestCase):
    def test_example(self):
        program, starts = EXAMPLES[5]
        self.assertEqual(standing(program, starts), [(1, 1, 1, ()), (1, 1, 2, ())])

    def test_the_asker_does_not_stand(self):
        self.assertEqual(standing(functions_of((("stop",), ("work", 3), ("go",))), (0,)), [])
        program = functions_of((("stop",), ("go",)))
        self.assertEqual(standing(program, (0, 0)), [(0, 0, 0, ()), (1, 0, 0, ())])

    def test_done_threads_are_left_out(self):
        self.assertEqual(standing(functions_of((("stop",), ("go",)), works(2)), (0, 1)), [])

    def test_locks_that_are_held(self):
        self.assertEqual(standing(*HOLDER), [(1, 1, 2, (0, 1)), (1, 1, 5, (0,)), (1, 1, 6, (0,))])

    def test_the_last_frame_alone(self):
        program = functions_of((("stop",), ("go",)), (("call", 2), ("ask",)), (("ask",),))
        self.assertEqual(standing(program, (0, 1)), [(1, 1, 1, ()), (1, 2, 0, ())])

    def test_a_safe_take_and_a_stop(self):
        program = (1, 0, ((("stop",), ("go",)), (("safe take", 0), ("free", 0))))
        self.assertEqual(standing(program, (0, 1)), [(1, 1, 0, ())])
        program = functions_of((("stop",), ("go",)), (("work", 1), ("stop",), ("go",)))
        self.assertEqual(standing(program, (0, 1)), [(0, 0, 0, ()), (1, 1, 1, ())])

    def test_stops_that_do_not_hold(self):
        program = functions_of((("stop",), ("go",)), (("ask",),), (("jump", 0),))
        self.assertEqual(standing(program, (0, 1, 2)), [])
        self.assertEqual(standing(program, (0, 1)), [(1, 1, 0, ())])

    def test_without_a_stop(self):
        self.assertEqual(standing(functions_of((("ask",),)), (0, 0)), [])

    def test_generated_programs(self):
        seen = 0
        for program, starts, distances in told_runs():
            wanted = {one for state in distances for one in standing_in(program, state)}
            found = standing(program, starts)
            self.assertIs(type(found), list)
            self.assertEqual(found, sorted(wanted))
            seen += len(found) > 2
        self.assertGreater(seen, 30)

    def test_by_name_and_new(self):
        found = standing(starts=(0, 1), program=PAIR)
        self.assertEqual(found, [(1, 1, 1, ())])
        found.clear()
        self.assertEqual(standing(PAIR, (0, 1)), [(1, 1, 1, ())])

    def test_2000_states_and_one_more(self):
        self.assertEqual(standing(*STATES_2000), [])
        with self.assertRaises(TooMany):
            standing(*STATES_2001)


class StandScheduleTest(unittest.TestCase):
    def test_example(self):
        program, starts = EXAMPLES[5]
        self.assertEqual(len(stand_schedule(program, starts, 1, 1, 2, ())), 3)
        self.assertIsNone(stand_schedule(program, starts, 0, 0, 0, ()))

    def test_locks_must_be_just_these(self):
        program, starts = HOLDER
        for place, locks, many in ((2, (0, 1), 3), (5, (0,), 6), (6, (0,), 7)):
            schedule = stand_schedule(program, starts, 1, 1, place, locks)
            self.assertEqual(len(schedule), many)
            for other in ((), (0,), (1,), (0, 1)):
                if other != locks:
                    self.assertIsNone(stand_schedule(program, starts, 1, 1, place, other))

    def test_none_where_nobody_stands(self):
        for place in (0, 2):
            self.assertIsNone(stand_schedule(PAIR, (0, 1), 1, 1, place, ()))
        for place in range(4):
            self.assertIsNone(stand_schedule(PAIR, (0, 1), 1, 0, place, ()))
            self.assertIsNone(stand_schedule(PAIR, (0, 1), 0, 0, place, ()))

    def test_generated_programs(self):
        seen = 0
        for program, starts, distances in told_runs()[::5]:
            least = {}
            for state, many in distances.items():
                for one in standing_in(program, state):
                    least[one] = min(many, least.get(one, many))
            for one, many in least.items():
                schedule = stand_schedule(program, starts, *one)
                self.assertIs(type(schedule), list)
                self.assertEqual(len(schedule), many)
                self.assertIn(one, standing_in(program, Story(program, starts, schedule).states[-1]))
                seen += 1
            for thread, at, locks in itertools.product(range(len(starts)), range(3), ((), (0,), (0, 1))):
                if program[0] == 2 and (thread, at, 0, locks) not in least:
                    self.assertIsNone(stand_schedule(program, starts, thread, at, 0, locks))
        self.assertGreater(seen, 100)

    def test_by_name_and_new(self):
        found = stand_schedule(locks=(), place=1, function=1, thread=1, starts=(0, 1), program=PAIR)
        wanted = stand_schedule(PAIR, (0, 1), 1, 1, 1, ())
        self.assertEqual(found, wanted)
        self.assertEqual(len(found), 2)
        found.clear()
        self.assertEqual(stand_schedule(PAIR, (0, 1), 1, 1, 1, ()), wanted)

    def test_threads_that_there_are_not(self):
        for wrong in NO_NUMBERS + [2, 4]:
            with self.assertRaises(NoThread):
                stand_schedule(PAIR, (0, 1), wrong, 1, 1, ())
            with self.assertRaises(NoThread):
                stand_schedule(PAIR, (0, 1), wrong, None, 9, [])

    def test_places_from_0_to_the_end(self):
        for function, end in ((0, 3), (1, 2)):
            for place in range(end + 1):
                stand_schedule(PAIR, (0, 1), 1, function, place, ())
            with self.assertRaises(NoPlace):
                stand_schedule(PAIR, (0, 1), 1, function, end + 1, ())

    def test_functions_and_places_of_other_kinds(self):
        for wrong in NO_NUMBERS + [2, 9]:
            with self.assertRaises(NoPlace):
                stand_schedule(PAIR, (0, 1), 1, wrong, 1, ())
        for wrong in NO_NUMBERS + [3, 9]:
            with self.assertRaises(NoPlace):
                stand_schedule(PAIR, (0, 1), 1, 1, wrong, ())

    def test_locks_of_other_kinds(self):
        program, starts = HOLDER
        for wrong in NO_NUMBERS + [0, 1, [0], [0, 1], (1, 0), (0, 0), (1, 1), (2,), (0, 2), (0, 1, 2),
                                   (0, True), (False,), (False, 1), (None,), ("0",), ((0,),), (-1, 0),
                                   {0: 1}, "01"]:
            if isinstance(wrong, tuple) and wrong in ((), (0,), (1,)) and repr(wrong) != "(False,)":
                continue
            with self.assertRaises(NoPlace):
                stand_schedule(program, starts, 1, 1, 2, wrong)
        for good in ((), (0,), (1,), (0, 1)):
            stand_schedule(program, starts, 1, 1, 2, good)

    def test_2000_states_and_one_more(self):
        self.assertIsNone(stand_schedule(*STATES_2000, 0, 0, 0, ()))
        with self.assertRaises(TooMany):
            stand_schedule(*STATES_2001, 0, 0, 0, ())
        with self.assertRaises(NoThread):
            stand_schedule(*STATES_2001, 1, 0, 0, ())
        with self.assertRaises(NoPlace):
            stand_schedule(*STATES_2001, 0, 0, 99, ())


class WaitsForTest(unittest.TestCase):
    program = (2, 0, ((("take", 0), ("safe take", 1)), (("leave",), ("take", 0))))

    def state(self, first, second, locks, outs=(0, 0), asker=None):
        return ((first, second), outs, locks, (), asker)

    def test_nobody_waits(self):
        self.assertEqual(waits_for(self.program, (0, 1), first_state(self.program, (0, 1))), [])
        state = self.state(((0, 2),), ((1, 2),), (0, 1))
        self.assertEqual(waits_for(self.program, (0, 1), state), [])

    def test_each_waiting_thread(self):
        state = self.state(((0, 1),), ((1, 1),), (0, 1))
        self.assertEqual(waits_for(self.program, (0, 1), state), [(0, 1, 1), (1, 0, 0)])

    def test_the_own_lock(self):
        state = self.state(((0, 0),), ((1, 0),), (0, None))
        self.assertEqual(waits_for(self.program, (0, 1), state), [(0, 0, 0)])

    def test_a_free_lock(self):
        state = self.state(((0, 0),), ((1, 1),), (None, 0))
        self.assertEqual(waits_for(self.program, (0, 1), state), [])

    def test_a_lock_of_a_thread_that_is_done(self):
        state = self.state((), ((1, 1),), (0, 0))
        self.assertEqual(waits_for(self.program, (0, 1), state), [(1, 0, 0)])

    def test_threads_outside_do_not_wait(self):
        state = self.state((), ((1, 1),), (0, 0), outs=(0, 1))
        self.assertEqual(waits_for(self.program, (0, 1), state), [])

    def test_whatever_stop_is_requested(self):
        for asker in (None, 0, 1):
            state = self.state(((0, 1),), ((1, 1),), (1, 1), asker=asker)
            self.assertEqual(waits_for(self.program, (0, 1), state), [(0, 1, 1), (1, 0, 1)])

    def test_generated_programs(self):
        seen = 0
        for program, starts, distances in told_runs():
            for state in list(distances)[::5]:
                found = waits_for(program, starts, state)
                self.assertIs(type(found), list)
                self.assertEqual(found, waits_in(program, state))
                seen += len(found)
        self.assertGreater(seen, 500)

    def test_by_name_and_new(self):
        state = self.state(((0, 0),), ((1, 0),), (0, None))
        found = waits_for(state=state, starts=(0, 1), program=self.program)
        found.clear()
        self.assertEqual(waits_for(self.program, (0, 1), state), [(0, 0, 0)])

    def test_what_is_no_state(self):
        good = self.state(((0, 0),), ((1, 0),), (0, None))
        for wrong in NO_NUMBERS + [0, list(good), good[:4], good + (0,), ((), (0, 0), (0, None), (), None),
                                   good[:2] + ((0, False),) + good[3:], good[:1] + ((0, True),) + good[2:]]:
            with self.assertRaises(NoState):
                waits_for(self.program, (0, 1), wrong)

    def test_many_states_do_not_matter(self):
        program = functions_of(works(10))
        starts = (0, 0, 0, 0)
        self.assertEqual(waits_for(program, starts, first_state(program, starts)), [])


def links_in(program, state):
    """The triples of threads that neither stand nor wait for their stop to hold."""
    asker = state[4]
    held = is_holding(program, state)
    return [one for one in waits_in(program, state)
            if (held if one[0] == asker else not stands(program, world_of(state), one[0]))]


def is_chain(program, state, links, found):
    if not found or any([one not in links for one in found]):
        return False
    if any([one[2] != after[0] for one, after in zip(found, found[1:])]):
        return False
    last = found[-1][2]
    if last in [one[0] for one in found]:
        return True
    if last == state[4]:
        return not is_holding(program, state)
    return stands(program, world_of(state), last)


class ChainTest(unittest.TestCase):
    def chain(self, program, starts, state):
        """The chain of a stuck state, once it is found to be right."""
        found = chain(program, starts, state)
        self.assertIs(type(found), list)
        self.assertTrue(is_stuck(program, state))
        if not state[0][state[4]]:
            self.assertEqual(found, [])
            return found
        links = links_in(program, state)
        self.assertTrue(is_chain(program, state, links, found), (program, state, found))
        for many in range(1, len(found)):
            for shorter in itertools.permutations(links, many):
                self.assertFalse(is_chain(program, state, links, shorter))
        return found

    def test_an_asker_that_is_done(self):
        program = functions_of((("stop",),), (("ask",),))
        state = (((), ((1, 0),)), (0, 0), (), (), 0)
        self.assertEqual(self.chain(program, (0, 1), state), [])

    def test_an_asker_that_is_done_while_others_wait(self):
        # No run leads there, but it has the form of a state and is stuck.
        program = (1, 0, ((("stop",),), (("take", 0),)))
        state = (((), ((1, 0),)), (0, 0), (1,), (), 0)
        self.assertEqual(self.chain(program, (0, 1), state), [])

    def test_one_that_waits_for_a_thread_that_stands(self):
        program, starts = EXAMPLES[3]
        state = ((((0, 1),), ((1, 1),)), (0, 0), (1,), (), 0)
        self.assertEqual(self.chain(program, starts, state), [(0, 0, 1)])

    def test_one_that_waits_for_the_asker(self):
        program, starts = EXAMPLES[1]
        state = ((((0, 2),), ((1, 0),)), (0, 0), (0,), (), 0)
        self.assertEqual(self.chain(program, starts, state), [(1, 0, 0)])

    def test_one_that_waits_for_itself(self):
        program = (1, 0, ((("stop",), ("go",)), (("take", 0), ("take", 0))))
        state = ((((0, 1),), ((1, 1),)), (0, 0), (1,), (), 0)
        self.assertEqual(self.chain(program, (0, 1), state), [(1, 0, 1)])
        program = (1, 0, ((("take", 0), ("stop",), ("take", 0)),))
        state = ((((0, 2),),), (0,), (0,), (), 0)
        self.assertEqual(self.chain(program, (0,), state), [(0, 0, 0)])

    def test_two_that_wait_for_each_other(self):
        program = (2, 0, ((("stop",), ("go",)), (("take", 0), ("take", 1)), (("take", 1), ("take", 0))))
        state = ((((0, 1),), ((1, 1),), ((2, 1),)), (0, 0, 0), (1, 2), (), 0)
        self.assertIn(self.chain(program, (0, 1, 2), state),
                      ([(1, 1, 2), (2, 0, 1)], [(2, 0, 1), (1, 1, 2)]))

    def test_a_lock_of_a_done_thread_of_an_outside_one_and_of_one_at_an_ask(self):
        program = (1, 0, ((("stop",), ("go",)), (("take", 0), ("leave",), ("ask",)), (("take", 0),)))
        for stack, out in (((), 0), (((1, 2),), 1), (((1, 0),), 1), (((1, 2),), 0)):
            state = ((((0, 1),), stack, ((2, 0),)), (0, out, 0), (1,), (), 0)
            self.assertEqual(self.chain(program, (0, 1, 2), state), [(2, 0, 1)])

    def test_of_several_ways_the_shortest(self):
        # Three threads in a row: the last one waits for the asker, the others for the next.
        program = (3, 0, ((("take", 0), ("stop",), ("go",)), (("take", 1), ("take", 0)),
                          (("take", 2), ("take", 1)), (("take", 2),)))
        state = ((((0, 2),), ((1, 1),), ((2, 1),), ((3, 0),)), (0,) * 4, (0, 1, 2), (), 0)
        self.assertEqual(self.chain(program, (0, 1, 2, 3), state), [(1, 0, 0)])
        # Two that wait for each other, and one for one of them.
        program = (2, 0, ((("stop",), ("go",)), (("take", 1),), (("take", 0), ("take", 1)),
                          (("take", 1), ("take", 0))))
        state = ((((0, 1),), ((1, 0),), ((2, 1),), ((3, 1),)), (0,) * 4, (2, 3), (), 0)
        self.assertEqual(len(self.chain(program, (0, 1, 2, 3), state)), 2)

    def test_an_asker_that_waits_for_its_stop_is_in_no_triple(self):
        # It is at a "take", too, of a lock of a thread that stands.
        asker = (("take", 0), ("stop",), ("take", 1), ("go",))
        program = (2, 0, (asker, (("take", 0),), (("take", 1), ("ask",))))
        state = ((((0, 2),), ((1, 0),), ((2, 1),)), (0,) * 3, (0, 2), (), 0)
        self.assertEqual(waits_for(program, (0, 1, 2), state), [(0, 1, 2), (1, 0, 0)])
        self.assertEqual(self.chain(program, (0, 1, 2), state), [(1, 0, 0)])
        # When its stop holds it is in one.
        state = ((((0, 2),), (), ((2, 1),)), (0,) * 3, (0, 2), (), 0)
        self.assertEqual(self.chain(program, (0, 1, 2), state), [(0, 1, 2)])

    def test_three_in_a_ring(self):
        program = (3, 0, ((("stop",), ("go",)), (("take", 0), ("take", 1)), (("take", 1), ("take", 2)),
                          (("take", 2), ("take", 0))))
        state = ((((0, 1),), ((1, 1),), ((2, 1),), ((3, 1),)), (0,) * 4, (1, 2, 3), (), 0)
        self.assertEqual(len(self.chain(program, (0, 1, 2, 3), state)), 3)

    def test_a_thread_at_a_safe_take_stands(self):
        program = (2, 0, ((("stop",), ("go",)), (("take", 0), ("safe take", 1)), (("take", 0),)))
        state = ((((0, 1),), ((1, 1),), ((2, 0),)), (0,) * 3, (1, 0), (), 0)
        self.assertEqual(self.chain(program, (0, 1, 2), state), [(2, 0, 1)])

    def test_stuck_states_of_generated_programs(self):
        lengths = []
        runs = told_runs() + [(program, starts, all_states(program, starts))
                              for program, starts in lock_runs(20)]
        for program, starts, states in runs:
            for state in states:
                if is_stuck(program, state):
                    lengths.append(len(self.chain(program, starts, state)))
        for many in (0, 1, 2):
            self.assertGreater(lengths.count(many), 2, many)

    def test_states_that_are_not_stuck(self):
        for program, starts, distances in told_runs()[::3]:
            for state in list(distances)[::4]:
                if not is_stuck(program, state):
                    with self.assertRaises(NoState):
                        chain(program, starts, state)

    def test_a_state_that_an_outside_move_alone_leaves_is_stuck(self):
        program = functions_of((("stop",),), (("leave",), ("jump", 1)))
        for state in all_states(program, (0, 1)):
            if state[4] is not None and state[0][0] == () and state[1][1]:
                self.assertEqual(self.chain(program, (0, 1), state), [])

    def test_what_is_no_state(self):
        program, starts = EXAMPLES[1]
        good = ((((0, 2),), ((1, 0),)), (0, 0), (0,), (), 0)
        for wrong in NO_NUMBERS + [0, list(good), good[:4], good + (0,), good[:4] + (False,),
                                   good[:2] + ((False,),) + good[3:], good[:4] + (None,)]:
            with self.assertRaises(NoState):
                chain(program, starts, wrong)

    def test_by_name_and_new(self):
        program, starts = EXAMPLES[1]
        state = ((((0, 2),), ((1, 0),)), (0, 0), (0,), (), 0)
        found = chain(state=state, starts=starts, program=program)
        found.clear()
        self.assertEqual(chain(program, starts, state), [(1, 0, 0)])
