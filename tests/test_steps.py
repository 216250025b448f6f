"""The steps of threads: each kind of instruction, wherever it is met."""

import copy
import unittest

from standasked.states import first_state, steps
from tests.samples import PAIR, functions_of, generated_runs, works

# Thread 0 executes what is tested; thread 1, at an "ask", stands for a stop of
# thread 0; thread 2 works, or is done, and so lets a stop hold or not.
STARTS = (0, 1, 2)
HERE = ((0, 1),)
BUSY = ((2, 0),)
DONE = ()

WORDS = [("work", 3), ("branch", 0), ("jump", 3), ("call", 3), ("take", 0), ("free", 0),
         ("safe take", 0), ("raise", 0), ("lower", 0), ("if", 0, 3), ("ask",), ("leave",),
         ("stop",), ("go",)]
STANDING = ("ask", "stop", "safe take")
GOING_OUTSIDE = ("work", "branch", "jump", "call", "ask", "leave")


def program_with(instruction):
    return (2, 2, ((("work", 2), instruction, ("work", 4)), (("ask",),), (("work", 9),), works(1)))


def state_of(stack=HERE, out=0, locks=(None, None), flags=(0, 0), asker=None, third=BUSY):
    return ((stack, ((1, 0),), third), (out, 0, 0), locks, flags, asker)


def steps_of(instruction, state, thread=0):
    found = steps(program_with(instruction), STARTS, state)
    return [step for step in found if step[0][0] == thread]


def steps_done(instruction, out=0, asker=None, third=BUSY):
    """What an instruction leads to where it is executed: no lock is held, no flag raised."""
    word = instruction[0]
    stacks = {"branch": [((0, 2),), ((0, 0),)], "jump": [((0, 3),)], "call": [((0, 1), (3, 0))]}
    changes = {"take": {"locks": (0, None)}, "safe take": {"locks": (0, None)},
               "raise": {"flags": (1, 0)}, "leave": {"out": 1}, "stop": {"asker": 0},
               "go": {"asker": None if asker == 0 else asker}}
    kept = {"out": out, "asker": asker, "third": third}
    kept.update(changes.get(word, {}))
    weight = 3 if word == "work" else 1
    return [((0, bit), weight, state_of(stack, **kept))
            for bit, stack in enumerate(stacks.get(word, [((0, 2),)]))]


class ContextTest(unittest.TestCase):
    """Each instruction inside and outside, for each stop that there may be."""

    def assert_steps(self, instruction, wanted, **parts):
        self.assertEqual(steps_of(instruction, state_of(**parts)), wanted, (instruction, parts))

    def test_inside_without_a_stop(self):
        for third in (BUSY, DONE):
            for instruction in WORDS:
                self.assert_steps(instruction, steps_done(instruction, third=third), third=third)

    def test_inside_while_another_requests_a_stop(self):
        for third in (BUSY, DONE):
            for asker in (1, 2):
                parts = {"third": third, "asker": asker}
                for instruction in WORDS:
                    wanted = steps_done(instruction, **parts)
                    if instruction[0] in STANDING:
                        wanted = []
                    self.assert_steps(instruction, wanted, **parts)

    def test_inside_with_an_own_stop_that_does_not_hold(self):
        for instruction in WORDS:
            self.assert_steps(instruction, [], asker=0, third=BUSY)

    def test_inside_with_an_own_stop_that_holds(self):
        for instruction in WORDS:
            parts = {"asker": 0, "third": DONE}
            self.assert_steps(instruction, steps_done(instruction, **parts), **parts)

    def outside_steps(self, instruction, **parts):
        if instruction[0] in GOING_OUTSIDE:
            return steps_done(instruction, out=1, **parts)
        return [((0, 0), 1, state_of(out=0, **parts))]

    def test_outside_without_a_stop(self):
        for third in (BUSY, DONE):
            for instruction in WORDS:
                wanted = self.outside_steps(instruction, third=third)
                self.assert_steps(instruction, wanted, out=1, third=third)

    def test_outside_while_another_requests_a_stop(self):
        for third in (BUSY, DONE):
            for asker in (1, 2):
                parts = {"third": third, "asker": asker}
                for instruction in WORDS:
                    wanted = []
                    if instruction[0] in GOING_OUTSIDE:
                        wanted = steps_done(instruction, out=1, **parts)
                    self.assert_steps(instruction, wanted, out=1, **parts)

    def test_outside_with_an_own_stop_that_does_not_hold(self):
        for instruction in WORDS:
            self.assert_steps(instruction, [], out=1, asker=0, third=BUSY)

    def test_outside_with_an_own_stop_that_holds(self):
        for instruction in WORDS:
            parts = {"asker": 0, "third": DONE}
            wanted = self.outside_steps(instruction, **parts)
            self.assert_steps(instruction, wanted, out=1, **parts)


class LockTest(unittest.TestCase):
    def test_a_held_lock_is_not_taken(self):
        for word in ("take", "safe take"):
            for holder in (0, 1, 2):
                for asker, third in ((None, BUSY), (0, DONE), (1, DONE), (2, BUSY)):
                    state = state_of(locks=(holder, None), asker=asker, third=third)
                    self.assertEqual(steps_of((word, 0), state), [], state)

    def test_the_other_lock_does_not_matter(self):
        for word in ("take", "safe take"):
            state = state_of(locks=(None, 2))
            wanted = [((0, 0), 1, state_of(((0, 2),), locks=(0, 2)))]
            self.assertEqual(steps_of((word, 0), state), wanted)
            wanted = [((0, 0), 1, state_of(((0, 2),), locks=(0, 0)))]
            self.assertEqual(steps_of((word, 1), state_of(locks=(0, None))), wanted)

    def test_one_comes_back_to_a_held_lock(self):
        for word in ("take", "safe take"):
            for holder in (0, 1):
                state = state_of(out=1, locks=(holder, None))
                wanted = [((0, 0), 1, state_of(locks=(holder, None)))]
                self.assertEqual(steps_of((word, 0), state), wanted)

    def test_the_own_lock_is_freed(self):
        for asker, third in ((None, BUSY), (0, DONE), (1, BUSY), (1, DONE)):
            state = state_of(locks=(0, 0), asker=asker, third=third)
            after = state_of(((0, 2),), locks=(None, 0), asker=asker, third=third)
            self.assertEqual(steps_of(("free", 0), state), [((0, 0), 1, after)])

    def test_other_locks_are_not_freed(self):
        for holder in (None, 1, 2):
            state = state_of(locks=(holder, 0))
            after = state_of(((0, 2),), locks=(holder, 0))
            self.assertEqual(steps_of(("free", 0), state), [((0, 0), 1, after)])

    def test_a_lock_stays_held_at_the_end(self):
        state = state_of(((0, 3),), locks=(0, None))
        after = state_of((), locks=(0, None))
        self.assertEqual(steps_of(("ask",), state), [((0, 0), 1, after)])

    def test_a_waiting_thread_does_not_stand(self):
        # Thread 0 waits for the lock of thread 1, which stands; thread 2 has a stop.
        program = (1, 0, ((("take", 0),), (("ask",),), (("stop",), ("go",))))
        threads = (((0, 0),), ((1, 0),), ((2, 1),))
        self.assertEqual(steps(program, STARTS, (threads, (0, 0, 0), (1,), (), 2)), [])
        free = steps(program, STARTS, (threads, (0, 0, 0), (None,), (), 2))
        self.assertEqual([step[0] for step in free], [(0, 0)])

    def test_a_safe_take_stands(self):
        program = (1, 0, ((("safe take", 0),), (("ask",),), (("stop",), ("go",))))
        threads = (((0, 0),), ((1, 0),), ((2, 1),))
        for holder in (None, 0, 1, 2):
            found = steps(program, STARTS, (threads, (0, 0, 0), (holder,), (), 2))
            self.assertEqual([step[0] for step in found], [(2, 0)])


class FlagTest(unittest.TestCase):
    def assert_flags(self, instruction, flags, place, after):
        for asker, third in ((None, BUSY), (0, DONE), (1, BUSY)):
            state = state_of(flags=flags, asker=asker, third=third)
            wanted = state_of(((0, place),), flags=after, asker=asker, third=third)
            self.assertEqual(steps_of(instruction, state), [((0, 0), 1, wanted)])

    def test_raise_and_lower(self):
        for flag in (0, 1):
            self.assert_flags(("raise", 0), (flag, 0), 2, (1, 0))
            self.assert_flags(("raise", 1), (0, flag), 2, (0, 1))
            self.assert_flags(("lower", 0), (flag, 1), 2, (0, 1))
            self.assert_flags(("lower", 1), (1, flag), 2, (1, 0))

    def test_if(self):
        self.assert_flags(("if", 0, 3), (0, 1), 2, (0, 1))
        self.assert_flags(("if", 0, 3), (1, 0), 3, (1, 0))
        self.assert_flags(("if", 1, 0), (1, 0), 2, (1, 0))
        self.assert_flags(("if", 1, 0), (0, 1), 0, (0, 1))


class PlaceTest(unittest.TestCase):
    def places(self, instruction):
        return [(move[1], state[0][0]) for move, _, state in steps_of(instruction, state_of())]

    def test_each_place_of_a_jump(self):
        for place in range(4):
            self.assertEqual(self.places(("jump", place)), [(0, ((0, place),))])

    def test_each_place_of_a_branch(self):
        for place in range(4):
            wanted = [(0, ((0, 2),)), (1, ((0, place),))]
            self.assertEqual(self.places(("branch", place)), wanted)

    def test_each_place_of_an_if(self):
        for place in range(4):
            found = steps_of(("if", 0, place), state_of(flags=(1, 0)))
            self.assertEqual([(move, state[0][0]) for move, _, state in found],
                             [((0, 0), ((0, place),))])

    def test_weights(self):
        for weight in (1, 2, 99):
            self.assertEqual(steps_of(("work", weight), state_of())[0][1], weight)
        for out in (0, 1):
            for instruction in WORDS[1:]:
                for step in steps_of(instruction, state_of(out=out)):
                    self.assertEqual(step[1], 1)


class CallTest(unittest.TestCase):
    # Function 0 calls 1 at place 1, 1 calls 2 at its place 0.
    program = functions_of((("work", 2), ("call", 1), ("ask",)), (("call", 2),), works(1))

    def assert_step(self, stack, after, out=0, out_after=0):
        state = ((stack,), (out,), (), (), None)
        wanted = ((after,), (out_after,), (), (), None)
        self.assertEqual(steps(self.program, (0,), state), [((0, 0), 1, wanted)])

    def test_a_call_begins_at_place_0(self):
        for out in (0, 1):
            self.assert_step(((0, 1),), ((0, 1), (1, 0)), out, out)
            self.assert_step(((0, 1), (1, 0)), ((0, 1), (1, 0), (2, 0)), out, out)

    def test_the_end_of_an_inner_frame(self):
        for out in (0, 1):
            self.assert_step(((0, 1), (1, 0), (2, 1)), ((0, 1), (1, 1)), out, out)
            self.assert_step(((0, 1), (1, 1)), ((0, 2),), out, out)

    def test_the_end_of_the_last_frame(self):
        self.assert_step(((0, 3),), ())
        self.assert_step(((0, 3),), (), out=1, out_after=0)

    def test_ends_while_a_stop_is_requested(self):
        program = functions_of((("call", 2),), (("stop",), ("go",)), works(1))
        for stack, after in ((((0, 0), (2, 1)), ((0, 1),)), (((0, 1),), ())):
            for out in (0, 1):
                state = ((stack, ((1, 1),)), (out, 0), (), (), 1)
                out_after = out if after else 0
                wanted = ((0, 0), 1, ((after, ((1, 1),)), (out_after, 0), (), (), 1))
                self.assertEqual(steps(program, (0, 1), state)[0], wanted)

    def test_ends_with_an_own_stop(self):
        program = functions_of((("call", 2),), (("ask",),), works(1))
        for stack, after in ((((0, 0), (2, 1)), ((0, 1),)), (((0, 1),), ())):
            state = ((stack, ((1, 0),)), (0, 0), (), (), 0)
            wanted = ((after, ((1, 0),)), (0, 0), (), (), 0)
            self.assertEqual(steps(program, (0, 1), state), [((0, 0), 1, wanted)])
            for pending in (((1, 1),), ((0, 0), (2, 0))):
                start = pending[0][0]
                state = ((stack, pending), (0, 0), (), (), 0)
                found = [step[0][0] for step in steps(program, (0, start), state)]
                self.assertEqual(found, [1])

    def test_a_thread_below_an_asking_stands_by_its_last_frame(self):
        # The frame below stands at a call, the last one at the "ask".
        program = functions_of((("call", 2),), (("stop",), ("go",)), (("ask",),))
        state = ((((0, 0), (2, 0)), ((1, 1),)), (0, 0), (), (), 1)
        wanted = ((((0, 0), (2, 0)), ((1, 2),)), (0, 0), (), (), None)
        self.assertEqual(steps(program, (0, 1), state), [((1, 0), 1, wanted)])


class StopTest(unittest.TestCase):
    def test_one_thread_alone(self):
        program = functions_of((("stop",), ("work", 5), ("go",)))
        state = first_state(program, (0,))
        for place, asker, weight in ((1, 0, 1), (2, 0, 5), (3, None, 1)):
            wanted = ((((0, place),),), (0,), (), (), asker)
            found = steps(program, (0,), state)
            self.assertEqual(found, [((0, 0), weight, wanted)])
            state = wanted
        state = steps(program, (0,), state)[0][2]
        self.assertEqual(state, (((),), (0,), (), (), None))
        self.assertEqual(steps(program, (0,), state), [])

    def test_it_holds_when_all_others_stand(self):
        program = functions_of((("stop",), ("go",)), (("ask",), ("leave",), ("work", 3)))
        starts = (0, 1, 1)
        stands = {((1, 0),): 0, ((1, 2),): 1, (): 0}
        moves = {((1, 1),): 0, ((1, 2),): 0, ((1, 3),): 0}
        for second, out in list(stands.items()) + list(moves.items()):
            for third, other in list(stands.items()) + list(moves.items()):
                state = ((((0, 1),), second, third), (0, out, other), (), (), 0)
                found = [step[0] for step in steps(program, starts, state)]
                held = (second, out) in stands.items() and (third, other) in stands.items()
                self.assertEqual((0, 0) in found, held, state)

    def test_only_its_thread_goes_on_when_it_holds(self):
        program = functions_of((("stop",), ("work", 4), ("go",)), (("ask",), ("work", 3)))
        state = ((((0, 1),), ((1, 0),), ((1, 0),)), (0, 0, 0), (), (), 0)
        self.assertEqual([step[:2] for step in steps(program, (0, 1, 1), state)], [((0, 0), 4)])

    def test_all_go_on_when_it_has_ended(self):
        program = functions_of((("stop",), ("go",)), (("ask",), ("work", 3)))
        state = ((((0, 1),), ((1, 0),), ((1, 0),)), (0, 0, 0), (), (), 0)
        after = steps(program, (0, 1, 1), state)[0][2]
        self.assertEqual(after[4], None)
        self.assertEqual([step[0] for step in steps(program, (0, 1, 1), after)],
                         [(0, 0), (1, 0), (2, 0)])

    def test_a_stop_waits_for_the_end_of_another_one(self):
        program = functions_of((("stop",), ("go",)))
        state = ((((0, 1),), ((0, 0),)), (0, 0), (), (), 0)
        found = steps(program, (0, 0), state)
        self.assertEqual(found, [((0, 0), 1, ((((0, 2),), ((0, 0),)), (0, 0), (), (), None))])
        after = found[0][2]
        self.assertEqual([step[0] for step in steps(program, (0, 0), after)], [(0, 0), (1, 0)])

    def test_go_ends_only_the_own_stop(self):
        state = state_of(asker=1)
        wanted = [((0, 0), 1, state_of(((0, 2),), asker=1))]
        self.assertEqual(steps_of(("go",), state), wanted)

    def test_a_done_asker_has_no_step(self):
        program = functions_of((("stop",),), (("ask",), ("leave",), ("work", 3), ("jump", 2)))
        state = (((), ((1, 0),)), (0, 0), (), (), 0)
        self.assertEqual(steps(program, (0, 1), state), [])
        outside = (((), ((1, 2),)), (0, 1), (), (), 0)
        self.assertEqual([step[:2] for step in steps(program, (0, 1), outside)], [((1, 0), 3)])

    def test_an_asker_outside_comes_back_for_its_go(self):
        program = functions_of((("stop",), ("leave",), ("go",)), (("ask",),))
        state = ((((0, 1),), ((1, 0),)), (0, 0), (), (), 0)
        outs = []
        for _ in range(3):
            state = steps(program, (0, 1), state)[0][2]
            outs.append((state[0][0], state[1], state[4]))
        self.assertEqual(outs, [(((0, 2),), (1, 0), 0), (((0, 2),), (0, 0), 0),
                                (((0, 3),), (0, 0), None)])


class ListTest(unittest.TestCase):
    def test_example(self):
        wanted = [((0, 0), 1, ((((0, 1),), ((1, 0),)), (0, 0), (), (), 0)),
                  ((1, 0), 7, ((((0, 0),), ((1, 1),)), (0, 0), (), (), None))]
        self.assertEqual(steps(PAIR, (0, 1), first_state(PAIR, (0, 1))), wanted)

    def test_by_name(self):
        state = first_state(PAIR, (0, 1))
        wanted = steps(PAIR, (0, 1), state)
        self.assertEqual(steps(state=state, starts=(0, 1), program=PAIR), wanted)
        self.assertEqual(steps(PAIR, (0, 1), state=state), wanted)

    def test_ascending(self):
        program = functions_of((("branch", 0),))
        found = steps(program, (0,) * 4, first_state(program, (0,) * 4))
        wanted = [(thread, bit) for thread in range(4) for bit in (0, 1)]
        self.assertEqual([step[0] for step in found], wanted)

    def test_the_list_is_new(self):
        state = first_state(PAIR, (0, 1))
        found = steps(PAIR, (0, 1), state)
        self.assertIs(type(found), list)
        wanted = list(found)
        found.clear()
        self.assertEqual(steps(PAIR, (0, 1), state), wanted)

    def test_no_argument_is_changed(self):
        for program, starts in generated_runs(20):
            state = first_state(program, starts)
            before = copy.deepcopy((program, starts, state))
            first = steps(program, starts, state)
            self.assertEqual((program, starts, state), before)
            self.assertEqual(steps(program, starts, state), first)
            self.assertIsNot(steps(program, starts, state), first)
