"""How many stops can end, and how often a thread can be overtaken."""

import functools
import unittest

from standasked.errors import NoProgram, NoStarts, TooMany
from standasked.rounds import most_stops, overtaken
from standasked.states import all_states
from tests.samples import (EXAMPLES, NO_PROGRAMS, PAIR, STATES_2000, STATES_2001, calm_runs, functions_of,
                           generated_runs, looping_runs, mixed_runs, one_function, works)
from tests.trying import Story, TooLong, distances_of, first_of, greatest_ends, is_before_stop

ONCE = (("stop",), ("go",))
LOOP = (("stop",), ("go",), ("work", 4), ("jump", 0))


@functools.cache
def small_runs():
    """(program, starts) of generated programs that all is tried with."""
    found = []
    for program, starts in EXAMPLES + generated_runs(100) + calm_runs(80) + mixed_runs(80) + looping_runs(150):
        try:
            if len(distances_of(program, first_of(program, starts), 300)) <= 300:
                found.append((program, starts))
        except TooLong:
            pass
    return found


class MostStopsTest(unittest.TestCase):
    def told(self, program, starts):
        """What most_stops tells, once its schedules are found to be right."""
        told = most_stops(program, starts)
        self.assertIs(type(told), tuple)
        self.assertEqual(len(told), 3)
        if told[0] == "most":
            _, many, schedule = told
            self.assertIs(type(many), int)
            self.assertIs(type(schedule), list)
            self.assertEqual(len(Story(program, starts, schedule).ended), many)
            return told[:2]
        word, schedule, ring = told
        self.assertEqual(word, "endless")
        self.assertEqual([type(schedule), type(ring)], [list, list])
        self.assertIsNot(schedule, ring)
        before = Story(program, starts, schedule)
        story = Story(program, starts, schedule + ring)
        self.assertEqual(story.states[-1], before.states[-1])
        self.assertGreater(len(story.ended), len(before.ended))
        return "endless"

    def test_none(self):
        for starts in ((0,), (0, 0), (0, 0, 0)):
            self.assertEqual(self.told(functions_of(works(2)), starts), ("most", 0))
        self.assertEqual(self.told(functions_of((("branch", 0), ("go",))), (0,)), ("most", 0))

    def test_a_stop_for_each_thread(self):
        for many in (1, 2, 3):
            self.assertEqual(self.told(PAIR, (0,) * many), ("most", many))
            self.assertEqual(self.told(PAIR, (0,) * many + (1,)), ("most", many))

    def test_several_stops_of_one_thread(self):
        self.assertEqual(self.told(functions_of(ONCE * 5), (0,)), ("most", 5))
        self.assertEqual(self.told(functions_of(ONCE * 2), (0, 0)), ("most", 4))
        # A "stop" within its own stop, and a "go" without one, change nothing.
        self.assertEqual(self.told(one_function(("stop",), ("stop",), ("go",), ("go",)), (0,)), ("most", 1))

    def test_stops_that_cannot_end(self):
        self.assertEqual(self.told(functions_of((("stop",),)), (0,)), ("most", 0))
        self.assertEqual(self.told(functions_of((("stop",), ("jump", 1))), (0,)), ("most", 0))
        self.assertEqual(self.told((1, 0, ((("take", 0), ("stop",), ("take", 0), ("go",)),)), (0,)), ("most", 0))
        # Both stops end before the other thread is in its loop, in which it never stands.
        program = functions_of(ONCE, (("stop",), ("go",), ("work", 1), ("jump", 2)))
        self.assertEqual(self.told(program, (0, 1)), ("most", 2))
        program = functions_of((("work", 1), ("stop",), ("go",)), (("jump", 0),))
        self.assertEqual(self.told(program, (0, 1)), ("most", 0))
        # Only one of the two that are at their "go" could still end a stop.
        self.assertEqual(self.told(functions_of(ONCE, (("stop",),)), (0, 1)), ("most", 1))

    def test_a_choice_between_few_and_many(self):
        program = one_function(("branch", 4), ("stop",), ("go",), ("jump", 8), ("stop",), ("go",), ("stop",), ("go",))
        self.assertEqual(self.told(program, (0,)), ("most", 2))
        program = one_function(("branch", 6), ("stop",), ("go",), ("stop",), ("go",), ("jump", 8), ("stop",), ("go",))
        self.assertEqual(self.told(program, (0,)), ("most", 2))

    def test_rounds_without_an_end_go_on_to_later_stops(self):
        program = one_function(("work", 2), ("branch", 0), ("stop",), ("go",), ("branch", 4), ("stop",), ("go",))
        self.assertEqual(self.told(program, (0,)), ("most", 2))
        self.assertEqual(self.told(program, (0, 0)), ("most", 4))
        # The way on leaves the round at a place that is not its first one.
        program = one_function(("work", 1), ("work", 1), ("branch", 4), ("jump", 0), ("stop",), ("go",))
        self.assertEqual(self.told(program, (0,)), ("most", 1))

    def test_endless(self):
        self.assertEqual(self.told(functions_of(LOOP), (0,)), "endless")
        self.assertEqual(self.told(functions_of(LOOP), (0, 0)), "endless")
        self.assertEqual(self.told(functions_of(LOOP, works(3)), (1, 0)), "endless")
        # A round behind a stop that ends once.
        self.assertEqual(self.told(functions_of(ONCE + (("branch", 2), ("stop",), ("go",), ("jump", 3))), (0,)),
                         "endless")

    def test_a_round_needs_the_same_state(self):
        # The flag is raised on the way: the loop ends behind it.
        program = (0, 1, ((("if", 0, 5), ("stop",), ("go",), ("raise", 0), ("jump", 0)),))
        self.assertEqual(self.told(program, (0,)), ("most", 1))
        program = (0, 1, ((("if", 0, 6), ("stop",), ("go",), ("raise", 0), ("lower", 0), ("jump", 0)),))
        self.assertEqual(self.told(program, (0,)), "endless")
        # The lock is taken for ever.
        program = (1, 0, ((("stop",), ("go",), ("take", 0), ("jump", 0)),))
        self.assertEqual(self.told(program, (0,)), ("most", 2))

    def test_a_round_of_an_asked_state(self):
        # The stop that is requested ends, another one begins, and so on.
        program = functions_of((("stop",), ("go",), ("jump", 0)))
        self.assertEqual(self.told(program, (0,)), "endless")
        # A ring in which the stop goes on for ever is no round.
        program = functions_of((("stop",), ("work", 1), ("branch", 1), ("go",)))
        self.assertEqual(self.told(program, (0,)), ("most", 1))

    def test_examples(self):
        told = [self.told(program, starts) for program, starts in EXAMPLES]
        self.assertEqual(told, [("most", many) for many in (1, 1, 0, 0, 2, 1)])

    def test_generated_programs(self):
        seen = []
        for program, starts in small_runs():
            try:
                wanted = greatest_ends(program, [first_of(program, starts)])
            except TooLong:
                continue
            self.assertEqual(self.told(program, starts), "endless" if wanted is None else ("most", wanted))
            seen.append(wanted)
        for many, least in ((0, 20), (1, 20), (2, 20), (3, 10), (None, 20)):
            self.assertGreater(seen.count(many), least, many)

    def test_by_name_and_new(self):
        told = most_stops(starts=(0, 0), program=PAIR)
        self.assertEqual(told, most_stops(PAIR, (0, 0)))
        told[2].clear()
        self.assertEqual(len(Story(PAIR, (0, 0), most_stops(PAIR, starts=(0, 0))[2]).ended), 2)


class OvertakenTest(unittest.TestCase):
    def test_one_thread_is_overtaken_by_none(self):
        for program in (functions_of(ONCE * 3), functions_of(LOOP), functions_of(works(2)), PAIR):
            self.assertEqual(overtaken(program, (0,)), (0,))

    def test_by_each_other(self):
        self.assertEqual(overtaken(PAIR, (0, 0)), (1, 1))
        self.assertEqual(overtaken(PAIR, (0, 0, 0)), (2, 2, 2))
        self.assertEqual(overtaken(functions_of(ONCE, ONCE * 3), (0, 1)), (3, 1))

    def test_a_thread_that_never_comes_to_a_stop(self):
        self.assertEqual(overtaken(PAIR, (0, 1)), (0, 0))
        self.assertEqual(overtaken(PAIR, (1, 1)), (0, 0))
        self.assertEqual(overtaken(functions_of(LOOP, (("ask",), ("jump", 0))), (0, 1)), (0, 0))
        # There is a "stop", but no way to it.
        program = functions_of(ONCE, (("ask",), ("jump", 0), ("stop",), ("go",)))
        self.assertEqual(overtaken(program, (0, 1)), (0, 0))

    def test_a_thread_that_comes_there_behind_all_other_stops(self):
        program = (0, 1, (ONCE + (("raise", 0),), (("if", 0, 3), ("ask",), ("jump", 0), ("stop",), ("go",))))
        self.assertEqual(overtaken(program, (0, 1)), (0, 0))

    def test_a_stop_that_is_requested_before_the_thread_comes_there(self):
        # Without the flag that is raised first, the other one waits at its "ask".
        program = (0, 1, ((("ask",), ("raise", 0), ("stop",), ("go",)),
                          (("if", 0, 2), ("jump", 0), ("work", 9), ("stop",), ("go",))))
        self.assertEqual(overtaken(program, (0, 1)), (1, 1))

    def test_a_move_of_the_thread_ends_the_count(self):
        # Twice before a "stop", each time overtaken at most as often as all the others' stops end.
        self.assertEqual(overtaken(functions_of(ONCE * 2, ONCE * 2), (0, 1)), (2, 2))
        program = (0, 1, (ONCE + (("raise", 0), ("stop",), ("go",)),
                          (("stop",), ("go",), ("if", 0, 4), ("jump", 2), ("stop",), ("go",))))
        self.assertEqual(overtaken(program, (0, 1)), (2, 2))
        # Each one goes to its second stop only behind the first one of the other.
        program = (0, 2, (ONCE + (("raise", 0), ("if", 1, 6), ("ask",), ("jump", 3), ("stop",), ("go",)),
                          ONCE + (("raise", 1), ("if", 0, 6), ("ask",), ("jump", 3), ("stop",), ("go",))))
        self.assertEqual(most_stops(program, (0, 1))[:2], ("most", 4))
        self.assertEqual(overtaken(program, (0, 1)), (1, 1))

    def test_outside_before_a_stop(self):
        program = functions_of(ONCE, (("leave",), ("stop",), ("go",)))
        self.assertEqual(overtaken(program, (0, 1)), (1, 1))
        self.assertEqual(overtaken(functions_of(ONCE * 2, (("leave",), ("stop",))), (0, 1)), (0, 2))

    def test_within_its_own_stop_nobody_overtakes(self):
        program = functions_of((("stop",), ("stop",), ("go",)), ONCE)
        self.assertEqual(overtaken(program, (0, 1)), (1, 1))

    def test_without_end(self):
        self.assertEqual(overtaken(functions_of(LOOP), (0, 0)), (None, None))
        self.assertEqual(overtaken(functions_of(LOOP, ONCE), (0, 1)), (1, None))
        self.assertEqual(overtaken(functions_of(LOOP, ONCE, works(2)), (2, 0, 1)), (0, 1, None))
        # All stops together have no end, but a loop that needs the other's flag can't overtake it so.
        program = (0, 2, ((("stop",), ("go",), ("raise", 0), ("if", 1, 6), ("ask",), ("jump", 3), ("lower", 1),
                           ("jump", 0)),
                          (("stop",), ("go",), ("raise", 1), ("if", 0, 6), ("ask",), ("jump", 3), ("lower", 0),
                           ("jump", 0))))
        self.assertEqual(most_stops(program, (0, 1))[0], "endless")
        found = overtaken(program, (0, 1))
        self.assertEqual(found, self.wanted(program, (0, 1)))
        self.assertNotIn(None, found)

    def wanted(self, program, starts):
        states = distances_of(program, first_of(program, starts))
        return tuple([
            greatest_ends(program, [state for state in states if is_before_stop(program, state, thread)], thread)
            for thread in range(len(starts))])

    def test_generated_programs(self):
        seen = []
        for program, starts in small_runs():
            try:
                wanted = self.wanted(program, starts)
            except TooLong:
                continue
            found = overtaken(program, starts)
            self.assertIs(type(found), tuple)
            self.assertEqual(found, wanted)
            seen.extend(wanted)
        for many, least in ((0, 50), (1, 50), (2, 20), (None, 3)):
            self.assertGreater(seen.count(many), least, many)

    def test_by_name(self):
        self.assertEqual(overtaken(starts=(0, 0), program=PAIR), (1, 1))


class WrongTest(unittest.TestCase):
    def test_programs_and_starts(self):
        for function in (most_stops, overtaken):
            for wrong in NO_PROGRAMS:
                with self.assertRaises(NoProgram):
                    function(wrong, None)
            for wrong in ((), (2,), (True,), [0], None, (0,) * 5, (0, -1)):
                with self.assertRaises(NoStarts):
                    function(PAIR, wrong)

    def test_2000_states_and_one_more(self):
        self.assertEqual(len(all_states(*STATES_2000)), 2000)
        self.assertEqual(most_stops(*STATES_2000)[:2], ("most", 1))
        self.assertEqual(overtaken(*STATES_2000), (0,))
        for function in (most_stops, overtaken):
            with self.assertRaises(TooMany):
                function(*STATES_2001)
