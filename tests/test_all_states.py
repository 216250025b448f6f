"""All states, with the least number of moves to each."""

import copy
import unittest

from standasked.errors import TooMany
from standasked.programs import askings, without
from standasked.states import all_states, are_all_states, first_state, steps
from tests.reference import holds, reference_distances, reference_steps, world_of
from tests.samples import (EXAMPLES, NO_NUMBERS, NO_PROGRAMS, PAIR, functions_of,
                           generated_runs, works)

# A thread that works n times has n + 2 states: its places, the end, and done.
JUST_2000 = (functions_of(works(3), works(6), works(8)), (0, 0, 1, 2))
# 3 * 23 * 29 states; a call brings those of the function that is called.
JUST_2001 = (functions_of(works(1), (("call", 3),) + works(9),
                          (("call", 4), ("call", 4)) + works(7), works(10), works(8)), (0, 1, 2))
HUGE = (functions_of(works(10)), (0, 0, 0, 0))


def states_or_none(program, starts):
    try:
        return all_states(program, starts)
    except TooMany:
        return None


def small_runs(many):
    """(program, starts, states) of generated programs with at most 2000 states."""
    found = [(program, starts, states_or_none(program, starts))
             for program, starts in generated_runs(many)]
    return [run for run in found if run[2] is not None]


class AllStatesTest(unittest.TestCase):
    def test_one_thread_that_works(self):
        program = functions_of(works(2))
        wanted = {((((0, place),),), (0,), (), (), None): place for place in range(3)}
        wanted[(((),), (0,), (), (), None)] = 3
        self.assertEqual(all_states(program, (0,)), wanted)

    def test_a_stop_for_ever(self):
        program = functions_of((("stop",),), (("jump", 0),))
        wanted = {((((0, 0),), ((1, 0),)), (0, 0), (), (), None): 0,
                  ((((0, 1),), ((1, 0),)), (0, 0), (), (), 0): 1}
        self.assertEqual(all_states(program, (0, 1)), wanted)

    def test_the_least_number_of_moves(self):
        program = functions_of((("branch", 3), ("work", 1), ("work", 1), ("ask",)))
        found = all_states(program, (0,))
        self.assertEqual(found[((((0, 3),),), (0,), (), (), None)], 1)
        self.assertEqual(found[((((0, 2),),), (0,), (), (), None)], 2)
        self.assertEqual(found[(((),), (0,), (), (), None)], 3)

    def test_an_end_that_is_never_reached(self):
        program = functions_of((("work", 1), ("jump", 0)))
        self.assertEqual(len(all_states(program, (0,))), 2)

    def test_examples(self):
        for program, starts in EXAMPLES:
            wanted = reference_distances(program, first_state(program, starts))
            self.assertEqual(all_states(program, starts), wanted)

    def test_generated_programs(self):
        runs = small_runs(150)
        self.assertGreater(len(runs), 100)
        for program, starts, found in runs:
            for state in found:
                wanted = reference_steps(program, state)
                self.assertEqual(steps(program, starts, state), wanted)
            if len(found) < 300:
                wanted = reference_distances(program, first_state(program, starts))
                self.assertEqual(found, wanted)

    def test_by_name(self):
        self.assertEqual(all_states(starts=(0, 1), program=PAIR), all_states(PAIR, (0, 1)))

    def test_the_dict_is_new(self):
        found = all_states(PAIR, (0, 1))
        self.assertIs(type(found), dict)
        wanted = dict(found)
        found.clear()
        self.assertEqual(all_states(PAIR, (0, 1)), wanted)
        self.assertIsNot(all_states(PAIR, (0, 1)), all_states(PAIR, (0, 1)))

    def test_exactly_2000_states(self):
        found = all_states(*JUST_2000)
        self.assertEqual(len(found), 2000)
        self.assertIs(are_all_states(*JUST_2000, found), True)
        self.assertIs(are_all_states(*JUST_2000, None), False)

    def test_one_more(self):
        program, starts = JUST_2001
        wanted = reference_count(program, first_state(program, starts))
        self.assertEqual(wanted, 2001)
        with self.assertRaises(TooMany):
            all_states(program, starts)

    def test_many_more(self):
        with self.assertRaises(TooMany):
            all_states(*HUGE)
        with self.assertRaises(TooMany):
            all_states(functions_of((("branch", 0),) * 10), (0, 0, 0, 0))


def reference_count(program, first):
    found = {first}
    layer = [first]
    while layer:
        layer = [step[2] for state in layer for step in reference_steps(program, state)
                 if step[2] not in found]
        found.update(layer)
        layer = list(set(layer))
    return len(found)


class AreAllStatesTest(unittest.TestCase):
    program = PAIR
    starts = (0, 1)

    def told(self, thing):
        before = copy.deepcopy(thing)
        answer = are_all_states(self.program, self.starts, thing)
        self.assertEqual(thing, before)
        return answer

    def test_the_right_dict(self):
        found = all_states(self.program, self.starts)
        self.assertIs(self.told(found), True)
        turned = dict(reversed(list(found.items())))
        self.assertIs(self.told(turned), True)
        self.assertIs(self.told(copy.deepcopy(found)), True)

    def test_by_name(self):
        found = all_states(self.program, self.starts)
        self.assertIs(are_all_states(thing=found, starts=(0, 1), program=PAIR), True)
        self.assertIs(are_all_states(PAIR, (1, 0), thing=found), False)

    def test_values_of_other_kinds(self):
        for thing in NO_NUMBERS + NO_PROGRAMS:
            self.assertIs(self.told(thing), False)
        found = all_states(self.program, self.starts)
        for thing in (list(found), list(found.items()), tuple(found), [found], (found,)):
            self.assertIs(self.told(thing), False)

    def test_a_state_less_or_more(self):
        found = all_states(self.program, self.starts)
        for state in found:
            less = dict(found)
            del less[state]
            self.assertIs(self.told(less), False)
        for key in (None, "more", 0, (), (((), ()), (0, 0), (), (), 1)):
            more = dict(found)
            more[key] = 3
            self.assertIs(self.told(more), False)

    def test_other_numbers_of_moves(self):
        found = all_states(self.program, self.starts)
        for state, least in found.items():
            for wrong in (least + 1, least - 1, None, str(least), (least,), [least], {0: least}):
                changed = dict(found)
                changed[state] = wrong
                self.assertIs(self.told(changed), False)

    def test_booleans_are_no_numbers_of_moves(self):
        found = all_states(self.program, self.starts)
        for state, least in found.items():
            if least < 2:
                changed = dict(found)
                changed[state] = bool(least)
                self.assertEqual(changed, found)
                self.assertIs(self.told(changed), False)

    def test_booleans_in_states(self):
        found = all_states((1, 1, PAIR[2]), (0, 1))
        for state in found:
            for changed_state in with_one_boolean(state):
                changed = {one: least for one, least in found.items() if one != state}
                changed[changed_state] = found[state]
                self.assertEqual(changed, found)
                told = are_all_states((1, 1, PAIR[2]), (0, 1), changed)
                self.assertIs(told, False, changed_state)

    def test_too_many_whatever_thing_is(self):
        for thing in (None, {}, all_states(PAIR, (0, 1)), []):
            for program, starts in (JUST_2001, HUGE):
                with self.assertRaises(TooMany):
                    are_all_states(program, starts, thing)

    def test_generated_programs(self):
        runs = small_runs(40)
        for (program, starts, found), other in zip(runs, runs[1:]):
            self.assertIs(are_all_states(program, starts, found), True)
            self.assertIs(are_all_states(program, starts, other[2]), found == other[2])


def with_one_boolean(thing):
    """All things that differ in one 0 or 1 alone, which is False or True there."""
    if isinstance(thing, tuple):
        return [thing[:at] + (changed,) + thing[at + 1:]
                for at, one in enumerate(thing) for changed in with_one_boolean(one)]
    return [bool(thing)] if thing in (0, 1) else []


class RunsTest(unittest.TestCase):
    """What holds of all runs, whatever the program."""

    def test_each_number_of_moves_is_one_above_the_least_before(self):
        for program, starts, found in small_runs(60):
            least_before = {}
            for state, least in found.items():
                for _, _, after in steps(program, starts, state):
                    least_before[after] = min(least, least_before.get(after, least))
            first = first_state(program, starts)
            self.assertEqual(found.pop(first), 0)
            least_before.pop(first, None)
            self.assertEqual(found, {state: least + 1 for state, least in least_before.items()})

    def test_while_a_stop_holds_only_its_thread_changes_things(self):
        for program, starts, found in small_runs(150):
            for state in found:
                if state[4] is None or not holds(program, world_of(state)):
                    continue
                for move, _, after in steps(program, starts, state):
                    if move[0] != state[4]:
                        self.assertEqual(state[1][move[0]], 1)
                        self.assertEqual(after[2:], state[2:])

    def test_a_request_that_is_taken_back_leaves_a_state(self):
        seen = 0
        for program, starts, found in small_runs(150):
            for state in found:
                asker = state[4]
                if asker is None or holds(program, world_of(state)):
                    continue
                seen += 1
                # The asker has not moved since its "stop", one place before.
                function, place = state[0][asker][-1]
                self.assertEqual(program[2][function][place - 1], ("stop",))
                stack = state[0][asker][:-1] + ((function, place - 1),)
                threads = state[0][:asker] + (stack,) + state[0][asker + 1:]
                self.assertIn((threads,) + state[1:4] + (None,), found)
        self.assertGreater(seen, 100)

    def test_more_askings_have_all_states_but_asked_ones(self):
        seen = 0
        for program, starts, found in small_runs(150):
            for one in askings(program):
                kept = [other for other in askings(program) if other != one]
                fewer = states_or_none(without(program, kept), starts)
                if fewer is not None:
                    seen += 1
                    calm = [state for state in fewer if state[4] is None]
                    self.assertEqual([state for state in calm if state not in found], [])
        self.assertGreater(seen, 10)
