"""Machines: each of their calls, behind each other one."""

import random
import unittest

from standasked.errors import NoMove, NoNumber, NoProgram, NoStarts, NoThread, StandError
from standasked.machines import Machine
from standasked.states import first_state, steps
from standasked.stops import judge
from tests.reference import reference_steps, stands, world_of
from tests.samples import (EXAMPLES, NO_NUMBERS, NO_PROGRAMS, PAIR, calm_runs, functions_of,
                           generated_runs, mixed_runs, works)
from tests.trying import Story

METHODS = ["step", "stands", "asker", "lateness", "pause", "state", "schedule", "stops", "mark", "back"]


def seen_of(machine, many):
    """All that a machine of so many threads tells."""
    return (machine.asker(), machine.lateness(), machine.pause(), machine.state(), machine.schedule(),
            machine.stops(), [machine.stands(thread) for thread in range(many)])


def stands_of(program, state, thread):
    if not state[0][thread]:
        return "done"
    if state[4] not in (None, thread) and stands(program, world_of(state), thread):
        return "stands"
    if [step for step in reference_steps(program, state) if step[0][0] == thread]:
        return "moves"
    return "waits"


def wanted_of(program, starts, moves):
    """What a machine is to tell after these moves."""
    story = Story(program, starts, moves)
    state = story.states[-1]
    late, whole = story.sums[:2] if story.sums is not None else (None, None)
    return (state[4], late, whole, state, list(moves), story.ended,
            [stands_of(program, state, thread) for thread in range(len(starts))])


class RefusalTest(unittest.TestCase):
    def assert_refused(self, machine, many, error, method, *arguments):
        before = seen_of(machine, many)
        with self.assertRaises(StandError) as caught:
            method(*arguments)
        self.assertIs(type(caught.exception), error)
        self.assertEqual(seen_of(machine, many), before)


class MachineTest(RefusalTest):
    def test_example(self):
        machine = Machine(PAIR, (0, 1))
        told = [machine.step(0, 0), machine.lateness(), machine.stands(0), machine.step(1, 0),
                machine.lateness(), machine.stands(1), machine.step(0, 0), machine.pause(),
                machine.step(0, 0), machine.stops(), machine.asker()]
        self.assertEqual(told, [None, 0, "waits", None, 7, "stands", None, 12, None, [(7, 13)], None])

    def test_methods_are_defined_in_the_class_itself(self):
        for name in METHODS:
            self.assertIn(name, Machine.__dict__)
        self.assertEqual(Machine.__bases__, (object,))

    def test_at_first(self):
        machine = Machine(program=PAIR, starts=(0, 1))
        self.assertEqual(seen_of(machine, 2), (None, None, None, first_state(PAIR, (0, 1)), [], [],
                                               ["moves", "moves"]))

    def test_by_name(self):
        machine = Machine(starts=(0, 1), program=PAIR)
        self.assertIsNone(machine.step(bit=0, thread=0))
        self.assertEqual(machine.stands(thread=0), "waits")
        self.assertEqual(machine.mark(), 0)
        self.assertIsNone(machine.step(1, bit=0))
        self.assertIsNone(machine.back(number=0))
        self.assertEqual(machine.schedule(), [(0, 0)])

    def test_what_is_no_program_or_no_starts(self):
        for wrong in NO_PROGRAMS:
            with self.assertRaises(NoProgram):
                Machine(wrong, (0, 1))
            with self.assertRaises(NoProgram):
                Machine(wrong, None)
        for wrong in NO_NUMBERS + [(2,), (0, 2), [0], (0,) * 5, (True,)]:
            if wrong in ((0,), (1,)) and repr(wrong) in ("(0,)", "(1,)"):
                continue
            with self.assertRaises(NoStarts):
                Machine(PAIR, wrong)

    def test_any_number_of_states(self):
        machine = Machine(functions_of((("branch", 0),) * 10), (0, 0, 0, 0))
        for thread in range(4):
            for bit in (1, 0, 0):
                machine.step(thread, bit)
        self.assertEqual(machine.state()[0], (((0, 2),),) * 4)

    def test_long_runs(self):
        machine = Machine(functions_of((("stop",), ("work", 99), ("jump", 1))), (0,))
        machine.step(0, 0)
        for _ in range(2000):
            machine.step(0, 0)
        self.assertEqual((machine.lateness(), machine.pause()), (0, 100 * 1000))
        self.assertEqual(len(machine.schedule()), 2001)


class StepTest(RefusalTest):
    def test_bits_of_a_branch(self):
        program = functions_of((("branch", 2), ("work", 1), ("work", 1)))
        for bit, place in ((0, 1), (1, 2)):
            machine = Machine(program, (0,))
            self.assertIsNone(machine.step(0, bit))
            self.assertEqual(machine.state()[0], (((0, place),),))
            self.assertEqual(machine.schedule(), [(0, bit)])

    def test_bit_1_is_no_move_elsewhere(self):
        machine = Machine(PAIR, (0, 1))
        for thread in (0, 1):
            self.assert_refused(machine, 2, NoMove, machine.step, thread, 1)
        program = functions_of((("leave",), ("branch", 0), ("raise", 0)))
        machine = Machine((0, 1, program[2]), (0,))
        machine.step(0, 0)
        machine.step(0, 0)
        # It is to come back here, which is a move of its own.
        self.assert_refused(machine, 1, NoMove, machine.step, 0, 1)
        machine.step(0, 0)
        self.assertEqual(machine.state()[:2], ((((0, 2),),), (0,)))

    def test_threads_without_a_step(self):
        machine = Machine(PAIR, (0, 1))
        machine.step(0, 0)
        # Its stop does not hold yet.
        self.assert_refused(machine, 2, NoMove, machine.step, 0, 0)
        machine.step(1, 0)
        # It stands.
        self.assert_refused(machine, 2, NoMove, machine.step, 1, 0)
        for thread in (0, 0, 0, 1, 1):
            machine.step(thread, 0)
        # They are done.
        for thread in (0, 1):
            self.assertEqual(machine.stands(thread), "done")
            self.assert_refused(machine, 2, NoMove, machine.step, thread, 0)
        self.assertEqual(machine.stops(), [(7, 13)])

    def test_a_held_lock(self):
        program = (1, 0, ((("take", 0), ("free", 0)),))
        machine = Machine(program, (0, 0))
        machine.step(1, 0)
        self.assert_refused(machine, 2, NoMove, machine.step, 0, 0)
        self.assertEqual(machine.stands(0), "waits")
        machine.step(1, 0)
        self.assertEqual(machine.stands(0), "moves")
        machine.step(0, 0)

    def test_threads_that_there_are_not(self):
        machine = Machine(PAIR, (0, 1))
        machine.step(0, 0)
        for wrong in NO_NUMBERS + [2, 3]:
            self.assert_refused(machine, 2, NoThread, machine.step, wrong, 0)
            self.assert_refused(machine, 2, NoThread, machine.step, wrong, 2)
            self.assert_refused(machine, 2, NoThread, machine.step, wrong, None)
            self.assert_refused(machine, 2, NoThread, machine.stands, wrong)

    def test_bits_that_there_are_not(self):
        machine = Machine(PAIR, (0, 1))
        machine.step(0, 0)
        for wrong in NO_NUMBERS + [2, 3]:
            # Thread 0 has no step at all: the wrong bit is told all the same.
            for thread in (0, 1):
                self.assert_refused(machine, 2, NoNumber, machine.step, thread, wrong)


class StandsTest(RefusalTest):
    def test_while_no_stop_is_requested(self):
        program = (1, 0, ((("ask",),), (("safe take", 0),), (("stop",),), (("leave",),)))
        machine = Machine(program, (0, 1, 2, 3))
        self.assertEqual([machine.stands(thread) for thread in range(4)], ["moves"] * 4)
        machine.step(3, 0)
        self.assertEqual(machine.stands(3), "moves")

    def test_while_a_stop_is_requested(self):
        program = (1, 0, ((("ask",),), (("safe take", 0),), (("stop",), ("go",)), (("leave",),)))
        machine = Machine(program, (0, 1, 2, 3))
        machine.step(2, 0)
        self.assertEqual([machine.stands(thread) for thread in range(4)],
                         ["stands", "stands", "waits", "moves"])
        machine.step(3, 0)
        # Outside it stands, and moves all the same.
        self.assertEqual([machine.stands(thread) for thread in range(4)],
                         ["stands", "stands", "moves", "stands"])
        machine.step(3, 0)
        self.assertEqual(machine.stands(3), "done")
        self.assertEqual((machine.lateness(), machine.pause()), (1, 1))

    def test_a_thread_that_waits_for_a_lock_does_not_stand(self):
        program, starts = EXAMPLES[1]
        machine = Machine(program, starts)
        machine.step(0, 0)
        machine.step(0, 0)
        self.assertEqual([machine.stands(0), machine.stands(1)], ["waits", "waits"])

    def test_a_done_asker(self):
        machine = Machine(functions_of((("stop",),), (("ask",),)), (0, 1))
        machine.step(0, 0)
        machine.step(0, 0)
        self.assertEqual([machine.stands(0), machine.stands(1)], ["done", "stands"])
        self.assertEqual((machine.asker(), machine.lateness(), machine.pause()), (0, 0, 1))


class SumsTest(RefusalTest):
    def test_moves_before_a_request_do_not_count(self):
        machine = Machine(PAIR, (0, 1))
        machine.step(1, 0)
        self.assertEqual((machine.lateness(), machine.pause(), machine.asker()), (None, None, None))
        machine.step(0, 0)
        self.assertEqual((machine.lateness(), machine.pause(), machine.asker()), (0, 0, 0))

    def test_outside_moves_do_not_count(self):
        program = functions_of((("stop",), ("work", 4), ("go",)), (("leave",), ("work", 30), ("ask",)))
        machine = Machine(program, (0, 1))
        for thread in (1, 0, 1, 0, 1):
            machine.step(thread, 0)
        self.assertEqual((machine.lateness(), machine.pause()), (0, 4))

    def test_an_asker_outside_counts(self):
        program = functions_of((("stop",), ("leave",), ("work", 30), ("go",)))
        machine = Machine(program, (0,))
        pauses = []
        for _ in range(4):
            machine.step(0, 0)
            pauses.append(machine.pause())
        self.assertEqual(pauses, [0, 1, 31, 32])
        self.assertEqual(machine.stands(0), "moves")
        machine.step(0, 0)
        self.assertEqual(machine.stops(), [(0, 33)])

    def test_a_stop_within_a_stop(self):
        machine = Machine(functions_of((("stop",), ("work", 5), ("stop",), ("go",), ("go",))), (0,))
        for wanted in (0, 5, 6, None, None):
            machine.step(0, 0)
            self.assertEqual(machine.pause(), wanted)
        self.assertEqual(machine.stops(), [(0, 7)])

    def test_several_stops(self):
        program = functions_of((("stop",), ("go",), ("jump", 0)), (("work", 9), ("ask",), ("work", 2)))
        machine = Machine(program, (0, 1))
        for thread in (0, 1, 0, 0, 1, 0, 1):
            machine.step(thread, 0)
        self.assertEqual((machine.lateness(), machine.pause()), (2, 2))
        self.assertEqual(machine.stops(), [(9, 10)])
        for thread in (1, 0, 0, 0, 0):
            machine.step(thread, 0)
        self.assertEqual(machine.stops(), [(9, 10), (3, 4), (0, 1)])

    def test_the_schedules_of_judge(self):
        seen = 0
        for program, starts in EXAMPLES + calm_runs(60):
            told = judge(program, starts)
            if told[0] != "late":
                continue
            seen += 1
            machine = Machine(program, starts)
            for move in told[2]:
                machine.step(*move)
            self.assertEqual(machine.lateness(), told[1])
            machine = Machine(program, starts)
            for move in told[4]:
                machine.step(*move)
            self.assertEqual(machine.stops()[-1][1], told[3])
        self.assertGreater(seen, 20)


class MarksTest(RefusalTest):
    def test_numbers_of_marks(self):
        machine = Machine(PAIR, (0, 1))
        self.assertEqual([machine.mark() for _ in range(3)], [0, 1, 2])
        machine.back(1)
        self.assertEqual(machine.mark(), 2)
        machine.back(0)
        self.assertEqual([machine.mark(), machine.mark()], [1, 2])

    def test_back_to_what_was_there(self):
        machine = Machine(PAIR, (0, 1))
        seen = []
        for thread in (0, 1, 0, 0, 1, 1, 0):
            seen.append(seen_of(machine, 2))
            machine.mark()
            machine.step(thread, 0)
        for number in (6, 4, 2, 1, 0):
            self.assertIsNone(machine.back(number))
            self.assertEqual(seen_of(machine, 2), seen[number])
        machine.step(1, 0)
        self.assertEqual(seen_of(machine, 2), wanted_of(PAIR, (0, 1), [(1, 0)]))
        machine.back(0)
        self.assertEqual(seen_of(machine, 2), seen[0])

    def test_greater_marks_are_gone_and_the_mark_stands(self):
        machine = Machine(PAIR, (0, 1))
        for thread in (0, 1, 0):
            machine.mark()
            machine.step(thread, 0)
        machine.back(1)
        self.assert_refused(machine, 2, NoNumber, machine.back, 2)
        machine.step(1, 0)
        machine.back(1)
        self.assertEqual(machine.schedule(), [(0, 0)])
        machine.back(1)
        machine.back(0)
        self.assert_refused(machine, 2, NoNumber, machine.back, 1)
        self.assertEqual(machine.schedule(), [])

    def test_a_mark_from_before_is_not_changed_by_what_comes_behind(self):
        machine = Machine(PAIR, (0, 1))
        machine.step(0, 0)
        machine.mark()
        for _ in range(3):
            for thread in (1, 0, 0):
                machine.step(thread, 0)
            self.assertEqual(machine.stops(), [(7, 13)])
            machine.back(0)
            self.assertEqual((machine.schedule(), machine.stops(), machine.pause()), ([(0, 0)], [], 0))

    def test_marks_that_there_are_not(self):
        machine = Machine(PAIR, (0, 1))
        for wrong in NO_NUMBERS + [0, 1]:
            self.assert_refused(machine, 2, NoNumber, machine.back, wrong)
        machine.step(0, 0)
        machine.mark()
        machine.mark()
        for wrong in NO_NUMBERS + [2, 3]:
            self.assert_refused(machine, 2, NoNumber, machine.back, wrong)
        # None of them has changed the marks, either.
        machine.back(1)
        self.assertEqual(machine.mark(), 2)

    def test_refused_moves_leave_the_marks(self):
        machine = Machine(PAIR, (0, 1))
        machine.step(0, 0)
        machine.mark()
        self.assert_refused(machine, 2, NoMove, machine.step, 0, 0)
        self.assertEqual(machine.mark(), 1)

    def test_more_marks_than_a_number_can_tell(self):
        machine = Machine(PAIR, (0, 1))
        for number in range(65538):
            self.assertEqual(machine.mark(), number)
        machine.step(1, 0)
        machine.back(65537)
        self.assertEqual(machine.schedule(), [])
        self.assertEqual(machine.mark(), 65538)


class AnswersTest(RefusalTest):
    def test_lists_belong_to_the_caller(self):
        machine = Machine(PAIR, (0, 1))
        for thread in (0, 1, 0, 0):
            machine.step(thread, 0)
        before = seen_of(machine, 2)
        for told in (machine.schedule(), machine.stops()):
            self.assertIs(type(told), list)
            told.append("more")
            told.reverse()
        self.assertEqual(seen_of(machine, 2), before)
        machine.mark()
        machine.schedule().clear()
        machine.stops().clear()
        machine.back(0)
        self.assertEqual(seen_of(machine, 2), before)

    def test_lists_do_not_grow_later(self):
        machine = Machine(PAIR, (0, 1))
        schedule, stops = machine.schedule(), machine.stops()
        for thread in (0, 1, 0, 0):
            machine.step(thread, 0)
        self.assertEqual((schedule, stops), ([], []))

    def test_machines_are_apart(self):
        one, other = Machine(PAIR, (0, 1)), Machine(PAIR, (0, 1))
        one.step(0, 0)
        one.mark()
        self.assertEqual(seen_of(other, 2), seen_of(Machine(PAIR, (0, 1)), 2))
        self.assertEqual(other.mark(), 0)


class AnyOrderTest(RefusalTest):
    """Calls by chance, each told right whatever was called before."""

    def assert_walk(self, source, program, starts):
        machine = Machine(program, starts)
        moves = []
        marks = []
        for _ in range(60):
            deed = source.choice(["step"] * 6 + ["mark", "back", "wrong"])
            state = Story(program, starts, moves).states[-1]
            found = steps(program, starts, state)
            if deed == "step" and found:
                move = source.choice(found)[0]
                self.assertIsNone(machine.step(*move))
                moves.append(move)
            elif deed == "mark":
                self.assertEqual(machine.mark(), len(marks))
                marks.append(list(moves))
            elif deed == "back" and marks:
                number = source.randrange(len(marks))
                self.assertIsNone(machine.back(number))
                moves = list(marks[number])
                marks = marks[:number + 1]
            else:
                self.assert_wrong(machine, starts, [step[0] for step in found], len(marks))
            self.assertEqual(seen_of(machine, len(starts)), wanted_of(program, starts, moves))
        return len(machine.stops())

    def assert_wrong(self, machine, starts, found, marks):
        many = len(starts)
        for thread in range(many):
            for bit in (0, 1):
                if (thread, bit) not in found:
                    self.assert_refused(machine, many, NoMove, machine.step, thread, bit)
        self.assert_refused(machine, many, NoThread, machine.step, many, 0)
        self.assert_refused(machine, many, NoNumber, machine.step, 0, 2)
        self.assert_refused(machine, many, NoNumber, machine.back, marks)

    def test_walks(self):
        source = random.Random(5)
        ended = 0
        for program, starts in EXAMPLES * 3 + generated_runs(40) + calm_runs(40) + mixed_runs(40):
            ended += self.assert_walk(source, program, starts) > 0
        self.assertGreater(ended, 10)

    def test_each_call_behind_each_other_one(self):
        program = functions_of((("stop",), ("work", 2), ("go",), ("jump", 0)), works(3))
        arguments = {"step": (0, 0), "stands": (1,), "back": (0,)}
        for before in METHODS:
            for behind in METHODS:
                machine = Machine(program, (0, 1))
                machine.mark()
                # Its stop holds: the other thread is done.
                moves = [(0, 0)] + [(1, 0)] * 4
                for move in moves:
                    machine.step(*move)
                for name in (before, behind):
                    getattr(machine, name)(*arguments.get(name, ()))
                    if name == "step":
                        moves = moves + [(0, 0)]
                    if name == "back":
                        moves = []
                self.assertEqual(seen_of(machine, 2), wanted_of(program, (0, 1), moves), (before, behind))
