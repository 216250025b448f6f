"""The least gaps between the end of a stop and the next request."""

import unittest

from standasked.errors import NoProgram, NoStarts, NoThread, TooMany
from standasked.rounds import gap_schedule, gaps
from standasked.states import all_states
from tests.samples import (EXAMPLES, NO_NUMBERS, NO_PROGRAMS, PAIR, STATES_2000, STATES_2001, calm_runs,
                           functions_of, generated_runs, looping_runs, mixed_runs, one_function, ordered_runs, works)
from tests.trying import TooLong, all_gaps, distances_of, first_of, gap_of

ONCE = (("stop",), ("go",))


class GapsTest(unittest.TestCase):
    def told(self, program, starts):
        """What gaps tells, once there is a schedule with just each of them."""
        found = gaps(program, starts)
        self.assertIs(type(found), dict)
        for one in range(len(starts)):
            for other in range(len(starts)):
                schedule = gap_schedule(program, starts, one, other)
                if (one, other) not in found:
                    self.assertIsNone(schedule)
                    continue
                self.assertIs(type(schedule), list)
                self.assertEqual(gap_of(program, starts, schedule), ((one, other), found[(one, other)]))
        return found

    def test_no_gap(self):
        self.assertEqual(self.told(functions_of(works(3)), (0, 0)), {})
        self.assertEqual(self.told(functions_of(ONCE), (0,)), {})
        self.assertEqual(self.told(PAIR, (0, 1)), {})
        # The first stop never ends.
        self.assertEqual(self.told(functions_of((("stop",), ("jump", 1)), ONCE), (0, 1)), {(1, 0): 0})
        self.assertEqual(self.told(functions_of((("stop",),)), (0, 0)), {})

    def test_of_a_thread_with_itself(self):
        self.assertEqual(self.told(functions_of(ONCE + (("work", 4),) + ONCE), (0,)), {(0, 0): 4})
        self.assertEqual(self.told(functions_of(ONCE + ONCE), (0,)), {(0, 0): 0})
        self.assertEqual(self.told(functions_of((("stop",), ("go",), ("work", 4), ("jump", 0))), (0,)), {(0, 0): 5})
        # The schedule has nothing before the first request, and the gap is the work alone.
        self.assertEqual(gap_schedule(functions_of(ONCE + (("work", 4),) + ONCE), (0,), 0, 0), [(0, 0)] * 4)

    def test_of_two_threads(self):
        self.assertEqual(self.told(PAIR, (0, 0)), {(0, 1): 0, (1, 0): 0})
        self.assertEqual(self.told(functions_of(ONCE, (("work", 9),) + ONCE), (0, 1)), {(0, 1): 0, (1, 0): 0})
        program = functions_of(ONCE + (("work", 50),) + ONCE, ONCE)
        self.assertEqual(self.told(program, (0, 1)), {(0, 0): 50, (0, 1): 0, (1, 0): 0})

    def test_of_one_order_alone(self):
        program = (0, 1, (ONCE + (("raise", 0),), (("if", 0, 3), ("ask",), ("jump", 0), ("work", 6)) + ONCE))
        # "raise", and all from the "ask" on, at which the other one stands, is behind the end.
        self.assertEqual(self.told(program, (0, 1)), {(0, 1): 1 + 3 + 6})

    def test_other_stops_end_the_gap(self):
        # The second stop of thread 0 is always behind that of thread 1, this one behind the first.
        program = (0, 2, (ONCE + (("raise", 0), ("if", 1, 6), ("ask",), ("jump", 3)) + ONCE,
                          (("if", 0, 3), ("ask",), ("jump", 0)) + ONCE + (("work", 5), ("raise", 1))))
        self.assertEqual(self.told(program, (0, 1)), {(0, 1): 1 + 3, (1, 0): 5 + 1 + 3})
        # The flag is raised before the first stop, and so its gap has no other stop in it.
        program = (0, 1, (ONCE + (("if", 0, 5), ("ask",), ("jump", 2)) + ONCE, ONCE + (("raise", 0),)))
        self.assertEqual(self.told(program, (0, 1)), {(0, 1): 0, (1, 0): 0, (0, 0): 1})

    def test_the_stop_must_have_ended(self):
        # A "stop" within its own stop requests none, and a "go" without one ends none.
        self.assertEqual(self.told(functions_of((("stop",), ("work", 3), ("stop",), ("go",))), (0,)), {})
        self.assertEqual(self.told(functions_of((("go",), ("work", 3), ("stop",), ("go",))), (0,)), {})
        self.assertEqual(self.told(functions_of((("stop",), ("go",), ("go",), ("stop",))), (0,)), {(0, 0): 1})

    def test_the_least_of_several_ways(self):
        program = one_function(("stop",), ("go",), ("branch", 5), ("work", 9), ("jump", 6), ("work", 3),
                               ("stop",), ("go",))
        self.assertEqual(self.told(program, (0,)), {(0, 0): 1 + 3})
        # The way with more moves is the one with less weight.
        program = one_function(("stop",), ("go",), ("branch", 6), ("work", 1), ("work", 1), ("jump", 7), ("work", 9),
                               ("stop",), ("go",))
        self.assertEqual(self.told(program, (0,)), {(0, 0): 4})

    def test_the_least_of_several_requests(self):
        # The "stop" with fewer moves before it is the farther one.
        program = one_function(("stop",), ("go",), ("branch", 7), ("work", 9), ("stop",), ("go",), ("jump", 10),
                               ("work", 1), ("work", 1), ("stop",))
        self.assertEqual(self.told(program, (0,)), {(0, 0): 1 + 2})
        program = one_function(("stop",), ("go",), ("branch", 7), ("work", 1), ("work", 1), ("stop",), ("jump", 10),
                               ("work", 9), ("stop",), ("go",))
        self.assertEqual(self.told(program, (0,)), {(0, 0): 1 + 2})

    def test_weights_of_ends_and_of_coming_back(self):
        program = functions_of((("call", 1), ("call", 1)), ONCE)
        # The called function's end and the next call.
        self.assertEqual(self.told(program, (0,)), {(0, 0): 2})
        program = functions_of(ONCE + (("leave",), ("stop",), ("go",)))
        self.assertEqual(self.told(program, (0,)), {(0, 0): 2})

    def test_what_is_done_while_the_stop_goes_on_is_no_part(self):
        program = functions_of((("stop",), ("work", 90), ("go",), ("work", 2), ("stop",), ("go",)))
        self.assertEqual(self.told(program, (0,)), {(0, 0): 2})
        # The other thread does its work outside while the stop goes on.
        program = functions_of(ONCE, (("leave",), ("work", 30), ("stop",), ("go",)))
        self.assertEqual(self.told(program, (0, 1))[(0, 1)], 0)

    def test_examples(self):
        found = [self.told(program, starts) for program, starts in EXAMPLES]
        self.assertEqual(found, [{}, {}, {}, {}, {(0, 2): 0, (2, 0): 0}, {}])

    def test_generated_programs(self):
        seen = []
        for program, starts in (EXAMPLES + generated_runs(100) + calm_runs(80) + mixed_runs(80)
                                + looping_runs(150) + ordered_runs(60)):
            try:
                if len(distances_of(program, first_of(program, starts), 250)) > 250:
                    continue
            except TooLong:
                continue
            found = self.told(program, starts)
            self.assertEqual(found, all_gaps(program, starts))
            seen.extend([(one == other, gap > 0) for (one, other), gap in found.items()])
        self.assertGreater(seen.count((True, True)), 20)
        self.assertGreater(seen.count((False, True)), 5)
        self.assertGreater(seen.count((False, False)), 20)

    def test_by_name_and_new(self):
        found = gaps(starts=(0, 0), program=PAIR)
        found.clear()
        self.assertEqual(gaps(PAIR, starts=(0, 0)), {(0, 1): 0, (1, 0): 0})
        wanted = gap_schedule(PAIR, (0, 0), 1, 0)
        self.assertEqual(gap_schedule(other=0, one=1, starts=(0, 0), program=PAIR), wanted)
        wanted.clear()
        self.assertNotEqual(gap_schedule(PAIR, (0, 0), 1, 0), [])

    def test_wrong_values(self):
        for wrong in NO_PROGRAMS:
            with self.assertRaises(NoProgram):
                gaps(wrong, (0,))
            with self.assertRaises(NoProgram):
                gap_schedule(wrong, None, None, None)
        for wrong in ((), (2,), (False,), [0], None):
            with self.assertRaises(NoStarts):
                gaps(PAIR, wrong)
            with self.assertRaises(NoStarts):
                gap_schedule(PAIR, wrong, 9, True)
        for wrong in NO_NUMBERS + [2, 3]:
            for one, other in ((wrong, 0), (0, wrong), (wrong, wrong)):
                with self.assertRaises(NoThread):
                    gap_schedule(PAIR, (0, 0), one, other)

    def test_2000_states_and_one_more(self):
        self.assertEqual(len(all_states(*STATES_2000)), 2000)
        self.assertEqual(gaps(*STATES_2000), {})
        self.assertIsNone(gap_schedule(*STATES_2000, 0, 0))
        with self.assertRaises(TooMany):
            gaps(*STATES_2001)
        with self.assertRaises(TooMany):
            gap_schedule(*STATES_2001, 0, 0)
        for one, other in ((1, 0), (0, 1), (True, 0), (0, False)):
            with self.assertRaises(NoThread):
                gap_schedule(*STATES_2001, one, other)
