"""What judge tells of all stops in all runs."""

import unittest

from standasked.errors import TooMany
from standasked.programs import without
from standasked.stops import judge
from tests.reference import moved
from tests.samples import (EXAMPLES, PAIR, calm_runs, functions_of, generated_runs, mixed_runs,
                           one_function, works)
from tests.trying import (Story, TooLong, all_told, counts, distances_of, first_of, has_ring,
                          is_stuck)

ASKER = (("stop",), ("work", 5), ("go",))


def fewest(distances, program, wanted):
    """The least number of moves to a state as wanted, None if there is none."""
    found = [least for state, least in distances.items() if wanted(program, state)]
    return min(found, default=None)


class JudgeTest(unittest.TestCase):
    def told(self, program, starts):
        """What judge tells, once it is found to be right."""
        told = judge(program, starts)
        self.assertIs(type(told), tuple)
        distances = distances_of(program, first_of(program, starts))
        asked = [state for state in distances if state[4] is not None]
        stuck = fewest(distances, program, is_stuck)
        ring = fewest({state: distances[state] for state in asked}, program, has_ring)
        if not asked:
            self.assertEqual(told, ("none",))
        elif stuck is not None:
            self.assert_stuck(program, starts, told, stuck)
        elif ring is not None:
            self.assert_ring(program, starts, told, ring)
        else:
            self.assert_late(program, starts, told)
        return told

    def assert_stuck(self, program, starts, told, least):
        word, schedule = told
        self.assertEqual(word, "stuck")
        self.assertIs(type(schedule), list)
        self.assertTrue(is_stuck(program, Story(program, starts, schedule).states[-1]))
        self.assertEqual(len(schedule), least)

    def assert_ring(self, program, starts, told, least):
        word, schedule, ring = told
        self.assertEqual(word, "ring")
        self.assertIs(type(schedule), list)
        self.assertIs(type(ring), list)
        self.assertEqual(len(schedule), least)
        self.assertGreater(len(ring), 0)
        begin = Story(program, starts, schedule).states[-1]
        state = begin
        for thread, bit in ring:
            self.assertTrue(counts(program, state, thread))
            state = moved(program, state, thread, bit)[1]
        self.assertEqual(state, begin)

    def assert_late(self, program, starts, told):
        word, weight, schedule, pause, other = told
        self.assertEqual(word, "late")
        self.assertIs(type(schedule), list)
        self.assertIs(type(other), list)
        self.assertIsNot(schedule, other)
        self.assertEqual(Story(program, starts, schedule).sums[0], weight)
        story = Story(program, starts, other)
        self.assertIsNone(story.sums)
        self.assertEqual(story.ended[-1][1], pause)
        self.assertIsNotNone(story.states[-2][4])
        try:
            sums, ends = all_told(program, starts)
        except TooLong:
            return
        self.assertEqual(weight, max([one[0][0] for one in sums]))
        self.assertEqual(pause, max([end[2] for end in ends]))

    def assert_greatest(self, program, starts, weight, pause):
        told = self.told(program, starts)
        self.assertEqual((told[0], told[1], told[3]), ("late", weight, pause))


class ExamplesTest(JudgeTest):
    def test_late(self):
        self.assert_greatest(PAIR, (0, 1), 7, 13)

    def test_stuck(self):
        self.assertEqual(self.told(*EXAMPLES[1]), ("stuck", [(0, 0), (0, 0)]))
        self.assertEqual(len(self.told(*EXAMPLES[3])[1]), 2)

    def test_ring(self):
        told = self.told(*EXAMPLES[2])
        self.assertEqual(told, ("ring", [(0, 0)], [(1, 0), (1, 0)]))

    def test_fewer_and_more_askings(self):
        program, starts = EXAMPLES[4]
        self.assertEqual(self.told(program, starts)[:2], ("late", 199))
        self.assertEqual(self.told(without(program, [(1, 2)]), starts)[:2], ("late", 101))
        self.assertEqual(self.told(without(program, [(1, 0)]), starts)[0], "ring")

    def test_the_last_one(self):
        self.assert_greatest(*EXAMPLES[5], 1, 2)

    def test_by_name(self):
        self.assertEqual(judge(starts=(0, 1), program=PAIR), judge(PAIR, (0, 1)))
        self.assertEqual(judge(PAIR, starts=(1, 0)), judge(PAIR, (1, 0)))


class NoneTest(JudgeTest):
    def test_without_a_stop(self):
        for program in (functions_of(works(3)), functions_of((("jump", 0),)),
                        one_function(("take", 0), ("take", 0), locks=1),
                        functions_of((("go",), ("leave",), ("ask",)))):
            for many in range(1, 4):
                self.assertEqual(self.told(program, (0,) * many), ("none",))

    def test_a_stop_that_is_never_reached(self):
        for words in ((("jump", 2), ("stop",)), (("jump", 0), ("stop",)),
                      (("take", 0), ("take", 0), ("stop",)), (("if", 0, 2), ("jump", 3), ("stop",))):
            self.assertEqual(self.told(one_function(*words, locks=1, flags=1), (0, 0)), ("none",))

    def test_a_stop_that_no_thread_executes(self):
        self.assertEqual(self.told(PAIR, (1, 1)), ("none",))


class StuckTest(JudgeTest):
    def assert_moves(self, program, starts, many):
        told = self.told(program, starts)
        self.assertEqual((told[0], len(told[1])), ("stuck", many))

    def test_an_asker_that_is_done(self):
        self.assert_moves(functions_of((("stop",),)), (0,), 2)
        self.assert_moves(functions_of((("stop",), ("work", 3))), (0,), 3)
        self.assert_moves(functions_of((("stop",), ("leave",))), (0,), 3)

    def test_an_asker_that_waits_while_its_stop_holds(self):
        # For its own lock, and for one of a thread that is done.
        self.assert_moves(one_function(("take", 0), ("stop",), ("take", 0), ("go",), locks=1), (0,), 2)
        self.assert_moves((1, 0, ((("stop",), ("safe take", 0), ("go",)), (("take", 0),))), (0, 1), 3)

    def test_a_thread_at_a_lock_of_the_asker(self):
        program = (1, 0, ((("take", 0), ("stop",), ("go",), ("free", 0)), (("take", 0), ("free", 0))))
        self.assert_moves(program, (0, 1), 2)

    def test_a_safe_take_is_not_stuck(self):
        program = (1, 0, ((("take", 0), ("stop",), ("go",), ("free", 0)),
                          (("safe take", 0), ("free", 0))))
        # Only its end is left to do while the asker holds the lock.
        self.assert_greatest(program, (0, 1), 1, 2)

    def test_threads_at_locks_of_each_other(self):
        other = (("take", 1), ("take", 0), ("free", 0), ("free", 1))
        program = (2, 0, ((("stop",), ("go",)), (("take", 0), ("take", 1), ("free", 1), ("free", 0)),
                          other))
        self.assert_moves(program, (0, 1, 2), 3)

    def test_a_thread_at_its_own_lock(self):
        program = (1, 0, ((("stop",), ("go",)), (("take", 0), ("take", 0))))
        self.assert_moves(program, (0, 1), 2)

    def test_outside_threads_do_not_matter(self):
        # The outside one goes on for ever, but no move of it counts.
        program = functions_of((("stop",),), (("leave",), ("jump", 1)))
        self.assert_moves(program, (0, 1), 3)

    def test_the_fewest_moves(self):
        # Each stop is for ever, that of the second function with fewer moves before.
        program = functions_of(works(4) + (("stop",),), works(2) + (("stop",),))
        self.assert_moves(program, (0,), 6)
        self.assert_moves(program, (1,), 4)
        # The other thread goes up to its own "stop".
        self.assert_moves(program, (0, 1), 4 + 4)
        self.assert_moves(program, (1, 1), 4 + 2)
        # A branch to the shorter way.
        program = functions_of(works(3) + (("branch", 6),) + works(2) + (("stop",),))
        self.assert_moves(program, (0,), 6)

    def test_before_a_ring(self):
        # The ring is met with a single move, the stuck state with more.
        program = functions_of((("stop",), ("branch", 1), ("work", 1), ("work", 1)))
        self.assert_moves(program, (0,), 5)


class RingTest(JudgeTest):
    def assert_moves(self, program, starts, many):
        told = self.told(program, starts)
        self.assertEqual((told[0], len(told[1])), ("ring", many))

    def test_a_jump_to_itself(self):
        program = functions_of((("stop",), ("go",)), (("jump", 0),))
        self.assert_moves(program, (0, 1), 1)
        self.assertEqual(judge(program, (0, 1)), ("ring", [(0, 0)], [(1, 0)]))

    def test_a_ring_of_the_asker(self):
        program = functions_of((("stop",), ("jump", 1), ("go",)))
        self.assertEqual(self.told(program, (0,)), ("ring", [(0, 0)], [(0, 0)]))
        program = functions_of((("stop",), ("branch", 0), ("go",)))
        self.assert_moves(program, (0,), 1)

    def test_a_branch_that_goes_back(self):
        program = functions_of((("stop",), ("go",)), (("work", 4), ("branch", 0)))
        self.assert_moves(program, (0, 1), 1)
        self.assertIn((1, 1), judge(program, (0, 1))[2])

    def test_an_asker_outside(self):
        program = functions_of((("stop",), ("leave",), ("jump", 2)))
        self.assert_moves(program, (0,), 2)

    def test_outside_moves_make_no_ring(self):
        program = functions_of((("stop",), ("go",)), (("leave",), ("jump", 1)))
        self.assert_greatest(program, (0, 1), 1, 2)

    def test_a_loop_past_an_ask_makes_no_ring(self):
        program = functions_of((("stop",), ("go",)), (("work", 4), ("ask",), ("jump", 0)))
        self.assert_greatest(program, (0, 1), 5, 6)

    def test_a_ring_behind_a_way_to_it(self):
        program = functions_of((("stop",), ("go",)), works(3) + (("jump", 3),))
        self.assert_moves(program, (0, 1), 4)

    def test_a_way_between_two_rings(self):
        program = functions_of((("stop",), ("go",)),
                               (("branch", 0), ("work", 1), ("work", 1), ("branch", 3)))
        self.assert_moves(program, (0, 1), 1)
        program = functions_of((("work", 1), ("work", 1), ("stop",), ("go",)),
                               (("branch", 2), ("branch", 0), ("work", 1), ("jump", 3)))
        self.assert_moves(program, (0, 1), 3)

    def test_rings_of_several_threads(self):
        program = functions_of((("stop",), ("go",)), (("branch", 0), ("work", 1), ("ask",)))
        for many in (1, 2, 3):
            self.assert_moves(program, (0,) + (1,) * many, 1)

    def test_a_loop_with_an_end_of_the_stop_is_none(self):
        program = functions_of((("stop",), ("go",), ("jump", 0)))
        self.assert_greatest(program, (0,), 0, 1)
        self.assert_greatest(program, (0, 0), 1, 2)

    def test_before_a_lateness(self):
        program = functions_of((("branch", 3), ("stop",), ("jump", 1), ("stop",), ("go",)))
        self.assert_moves(program, (0,), 2)


class LateTest(JudgeTest):
    def test_one_thread(self):
        self.assert_greatest(functions_of(ASKER), (0,), 0, 6)
        self.assert_greatest(functions_of((("stop",), ("go",))), (0,), 0, 1)
        self.assert_greatest(functions_of((("stop",), ("stop",), ("go",))), (0,), 0, 2)

    def test_all_that_others_do(self):
        program = functions_of(ASKER, (("work", 7), ("work", 9), ("ask",)))
        self.assert_greatest(program, (0, 1), 16, 22)
        self.assert_greatest(program, (0, 1, 1), 32, 38)
        self.assert_greatest(program, (1, 1, 0, 1), 48, 54)

    def test_ends_count(self):
        program = functions_of((("stop",), ("go",)), (("call", 2), ("work", 9)), works(1))
        self.assert_greatest(program, (0, 1), 1 + 1 + 1 + 9 + 1, 14)

    def test_the_longer_way_of_a_branch(self):
        program = functions_of((("stop",), ("go",)), (("branch", 3), ("work", 9), ("ask",), ("work", 4)))
        self.assert_greatest(program, (0, 1), 10, 11)
        program = functions_of((("stop",), ("go",)), (("branch", 3), ("work", 9), ("ask",), ("work", 40)))
        self.assert_greatest(program, (0, 1), 42, 43)

    def test_what_stands_is_not_done(self):
        for word in (("ask",), ("safe take", 0)):
            program = (1, 0, ((("stop",), ("go",)), (word, ("work", 7))))
            self.assert_greatest(program, (0, 1), 8, 9)
        # Behind its own stop, which must have ended, there is just its end.
        program = functions_of((("stop",), ("go",)), (("stop",), ("go",)))
        self.assert_greatest(program, (0, 1), 1, 2)

    def test_coming_back_is_not_done_while_a_stop_is_requested(self):
        program = (1, 0, ((("stop",), ("go",)), (("leave",), ("take", 0), ("work", 9))))
        self.assert_greatest(program, (0, 1), 11, 12)

    def test_outside_moves_do_not_count(self):
        program = functions_of(ASKER, (("leave",), ("work", 50), ("work", 60)))
        self.assert_greatest(program, (0, 1), 1, 7)

    def test_an_asker_that_goes_outside(self):
        program = functions_of((("stop",), ("leave",), ("work", 8), ("go",)), (("work", 3),))
        # It comes back for the "go" by a move of its own.
        self.assert_greatest(program, (0, 1), 4, 4 + 1 + 8 + 1 + 1)

    def test_the_own_moves_in_the_stop(self):
        program = functions_of((("stop",), ("call", 1), ("go",)), (("branch", 2), ("work", 20)))
        self.assert_greatest(program, (0,), 0, 1 + 1 + 20 + 1 + 1)

    def test_lateness_and_pause_of_different_stops(self):
        # The first stop is late, the second one long.
        program = functions_of((("stop",), ("go",), ("stop",), ("work", 90), ("go",)),
                               (("work", 30), ("ask",), ("work", 2)))
        self.assert_greatest(program, (0, 1), 30, 3 + 91)
        told = judge(program, (0, 1))
        self.assertEqual(len(Story(program, (0, 1), told[2]).ended), 0)
        ended = Story(program, (0, 1), told[4]).ended
        self.assertEqual((len(ended), ended[-1]), (2, (3, 94)))

    def test_locks_are_waited_for(self):
        holder = (("take", 0), ("work", 30), ("free", 0), ("ask",), ("work", 5))
        program = (1, 0, ((("stop",), ("go",)), holder))
        # One is at its "take", the other one just behind it.
        self.assert_greatest(program, (0, 1, 1), 1 + 30 + 1 + 1 + 30 + 1, 65)

    def test_flags_are_as_they_are(self):
        program = (0, 1, ((("stop",), ("go",), ("raise", 0), ("stop",), ("go",)),
                          (("ask",), ("if", 0, 4), ("work", 5), ("jump", 5), ("work", 70))))
        self.assert_greatest(program, (0, 1), 1 + 70 + 1, 73)

    def test_sums_above_all_numbers(self):
        deep = functions_of((("stop",),) + (("call", 1),) * 8 + (("go",),), (("call", 2),) * 10,
                            (("work", 99),) * 10)
        # 80 calls of 10 works each, 88 calls with their ends.
        told = judge(deep, (0,))
        self.assertEqual((told[0], told[1], told[3]), ("late", 0, 80 * 990 + 88 * 2 + 1))
        self.assertGreater(told[3], 65535)
        self.assertEqual(Story(deep, (0,), told[4]).ended, [(0, told[3])])


class GeneratedTest(JudgeTest):
    def test_generated_programs(self):
        words = []
        for program, starts in generated_runs(150) + calm_runs(150) + mixed_runs(250):
            try:
                words.append(self.told(program, starts)[0])
            except (TooLong, TooMany):
                pass
        for word in ("none", "stuck", "ring", "late"):
            self.assertGreater(words.count(word), 30, word)
