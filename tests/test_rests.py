"""The rests of states, and the greatest sums of each "stop" and of each thread."""

import copy
import functools
import unittest

from standasked.errors import NoThread, TooMany
from standasked.stops import judge, lates, rests, share_schedule, shares, shows_rests
from tests.samples import (EXAMPLES, NO_NUMBERS, NO_PROGRAMS, PAIR, calm_runs, functions_of,
                           generated_runs, mixed_runs, works)
from tests.trying import Story, TooLong, all_sums, all_told, distances_of, first_of

NOT_LATE = [(functions_of(works(2)), (0,)), EXAMPLES[1], EXAMPLES[2], EXAMPLES[3]]

# Two stops at different places, and one that is never requested.
SEVERAL = (functions_of((("work", 2), ("stop",), ("go",), ("call", 1), ("jump", 6), ("stop",)),
                        (("ask",), ("stop",), ("work", 50), ("go",)),
                        (("work", 30), ("ask",), ("work", 7))), (0, 2))


@functools.cache
def late_runs():
    """Programs with starts of which judge returns "late"."""
    found = []
    for program, starts in EXAMPLES + generated_runs(150) + calm_runs(120) + mixed_runs(150):
        try:
            if judge(program, starts)[0] == "late":
                found.append((program, starts))
        except TooMany:
            pass
    return found


@functools.cache
def tried_runs():
    """(program, starts, all sums, all ends) of those of them that are not too long."""
    found = []
    for program, starts in late_runs():
        try:
            found.append((program, starts) + all_told(program, starts))
        except TooLong:
            pass
    return found


class RestsTest(unittest.TestCase):
    def test_pair(self):
        at = {place: ((1, place),) for place in (0, 1, 2)}
        at[3] = ()
        wanted = {}
        # The weights that thread 1 has still to go, at each of its places.
        for place, rest in ((0, 7), (1, 0), (2, 1), (3, 0)):
            wanted[((((0, 1),), at[place]), (0, 0), (), (), 0)] = (rest, rest + 6)
        for place in (1, 3):
            wanted[((((0, 2),), at[place]), (0, 0), (), (), 0)] = (0, 1)
        self.assertEqual(rests(PAIR, (0, 1)), wanted)

    def test_none_where_judge_does_not_return_late(self):
        for program, starts in NOT_LATE:
            self.assertIsNone(rests(program, starts))
            self.assertIsNone(lates(program, starts))
            self.assertIsNone(shares(program, starts))
            for thread in range(len(starts)):
                self.assertIsNone(share_schedule(program, starts, thread))

    def test_outside_states_are_there_too(self):
        found = rests(*EXAMPLES[5])
        wanted = {((((0, 1),), stack), (0, out), (), (), 0): sums for stack, out, sums in (
            (((1, 0),), 0, (1, 2)), (((1, 1),), 1, (0, 1)), (((1, 2),), 1, (0, 1)), ((), 0, (0, 1)))}
        self.assertEqual(found, wanted)

    def test_against_the_sums_of_all_ways(self):
        tried = 0
        for program, starts in late_runs():
            found = rests(program, starts)
            states = distances_of(program, first_of(program, starts))
            self.assertEqual(sorted(map(repr, found)),
                             sorted([repr(state) for state in states if state[4] is not None]))
            for state, sums in list(found.items())[:25]:
                try:
                    ways = all_sums(program, state)
                except TooLong:
                    continue
                tried += 1
                self.assertEqual(sums, (max([way[0] for way in ways]), max([way[1] for way in ways])))
        self.assertGreater(tried, 1000)

    def test_by_name(self):
        self.assertEqual(rests(starts=(0, 1), program=PAIR), rests(PAIR, (0, 1)))

    def test_the_dict_is_new(self):
        found = rests(PAIR, (0, 1))
        self.assertIs(type(found), dict)
        wanted = copy.deepcopy(found)
        found.clear()
        self.assertEqual(rests(PAIR, (0, 1)), wanted)


def with_one_boolean(thing):
    """All things that differ in one 0 or 1 alone, which is False or True there."""
    if isinstance(thing, tuple):
        return [thing[:at] + (changed,) + thing[at + 1:]
                for at, one in enumerate(thing) for changed in with_one_boolean(one)]
    return [bool(thing)] if thing in (0, 1) else []


class ShowsRestsTest(unittest.TestCase):
    def told(self, thing, program=PAIR, starts=(0, 1)):
        before = copy.deepcopy(thing)
        answer = shows_rests(program, starts, thing)
        self.assertEqual(repr(thing), repr(before))
        self.assertIn(answer, (True, False))
        self.assertIs(type(answer), bool)
        return answer

    def test_the_right_dict(self):
        found = rests(PAIR, (0, 1))
        self.assertTrue(self.told(found))
        self.assertTrue(self.told(dict(reversed(list(found.items())))))
        self.assertTrue(shows_rests(thing=found, program=PAIR, starts=(0, 1)))

    def test_one_pair_changed(self):
        found = rests(PAIR, (0, 1))
        for state, (rest, whole) in found.items():
            for wrong in ((rest + 1, whole), (rest, whole + 1), (rest - 1, whole), (rest, whole - 1),
                          (whole, rest + whole), (rest,), (rest, whole, whole), (), rest, None,
                          (rest, None), ((rest, whole),), (str(rest), whole), "", {rest: whole}):
                changed = dict(found)
                changed[state] = wrong
                self.assertFalse(self.told(changed), wrong)

    def test_lists_for_tuples(self):
        found = rests(PAIR, (0, 1))
        for state, sums in found.items():
            changed = dict(found)
            changed[state] = list(sums)
            self.assertFalse(self.told(changed))

    def test_one_pair_left_out_or_put_in(self):
        found = rests(PAIR, (0, 1))
        for state in found:
            less = {one: sums for one, sums in found.items() if one != state}
            self.assertFalse(self.told(less))
        for key in (None, 0, "", (), first_of(PAIR, (0, 1)), ((((0, 3),), ()), (0, 0), (), (), 0)):
            more = dict(found)
            more[key] = (0, 1)
            self.assertFalse(self.told(more))

    def test_truths_for_numbers_in_values(self):
        found = rests(PAIR, (0, 1))
        changes = 0
        for state, sums in found.items():
            for wrong in with_one_boolean(sums):
                changed = dict(found)
                changed[state] = wrong
                self.assertEqual(changed, found)
                self.assertFalse(self.told(changed))
                changes += 1
        self.assertGreater(changes, 5)

    def test_truths_for_numbers_in_keys(self):
        program = (1, 1, PAIR[2])
        found = rests(program, (0, 1))
        for state, sums in found.items():
            for wrong in with_one_boolean(state):
                changed = {one: pair for one, pair in found.items() if one != state}
                changed[wrong] = sums
                self.assertEqual(changed, found)
                self.assertFalse(self.told(changed, program), wrong)

    def test_other_values(self):
        found = rests(PAIR, (0, 1))
        for thing in NO_NUMBERS + NO_PROGRAMS + [list(found), list(found.items()), tuple(found),
                                                 [found], (found,), judge(PAIR, (0, 1))]:
            self.assertFalse(self.told(thing))

    def test_never_where_judge_does_not_return_late(self):
        for program, starts in NOT_LATE:
            for thing in (None, {}, [], (), False, True, 0, rests(PAIR, (0, 1))):
                self.assertFalse(self.told(thing, program, starts))

    def test_those_of_other_programs(self):
        runs = late_runs()[:60]
        shown = [rests(program, starts) for program, starts in runs]
        for (program, starts), found, other in zip(runs, shown, shown[1:]):
            self.assertTrue(self.told(found, program, starts))
            self.assertEqual(self.told(other, program, starts), found == other)

    def test_sums_above_all_numbers(self):
        deep = functions_of((("stop",),) + (("call", 1),) * 8 + (("go",),), (("call", 2),) * 10,
                            (("work", 99),) * 10)
        found = rests(deep, (0,))
        self.assertGreater(max([whole for _, whole in found.values()]), 65535)
        self.assertTrue(self.told(found, deep, (0,)))


class LatesTest(unittest.TestCase):
    def test_each_stop_by_itself(self):
        # The first stop has left the other thread at its "ask", or behind it.
        wanted = {(0, 1): (30, 31), (1, 1): (7 + 1, 7 + 1 + 50 + 1)}
        self.assertEqual(lates(*SEVERAL), wanted)

    def test_greatest_ones_of_different_runs(self):
        # The way with the greater lateness has the smaller pause.
        program = (0, 1, ((("branch", 2), ("raise", 0), ("stop",), ("if", 0, 5), ("work", 90), ("go",)),
                          (("if", 0, 2), ("jump", 3), ("work", 40), ("ask",))))
        found = lates(program, (0, 1))
        self.assertEqual(list(found), [(0, 2)])
        lateness, pause = found[(0, 2)]
        self.assertEqual((lateness, pause), (41, 2 + 1 + 90 + 1))

    def test_a_stop_in_an_inner_frame(self):
        program = functions_of((("call", 1), ("call", 1)), (("stop",), ("go",)))
        self.assertEqual(lates(program, (0,)), {(1, 0): (0, 1)})

    def test_a_stop_of_several_threads(self):
        program = functions_of((("stop",), ("go",), ("work", 8)))
        self.assertEqual(lates(program, (0, 0)), {(0, 0): (9, 10)})

    def test_a_stop_within_a_stop_is_not_requested(self):
        program = functions_of((("stop",), ("stop",), ("go",)))
        self.assertEqual(lates(program, (0,)), {(0, 0): (0, 2)})

    def test_against_all_schedules(self):
        for program, starts, sums, ends in tried_runs():
            wanted = {}
            for (late, _, _), place in sums:
                wanted[place] = (max(late, wanted.get(place, (0, 0))[0]), 0)
            for place, _, whole in ends:
                wanted[place] = (wanted[place][0], max(whole, wanted[place][1]))
            self.assertEqual(lates(program, starts), wanted)
            told = judge(program, starts)
            self.assertEqual(told[1], max([pair[0] for pair in wanted.values()]))
            self.assertEqual(told[3], max([pair[1] for pair in wanted.values()]))
        self.assertGreater(len(tried_runs()), 100)

    def test_by_name_and_new(self):
        found = lates(starts=(0, 1), program=PAIR)
        self.assertEqual(found, {(0, 0): (7, 13)})
        self.assertIs(type(found), dict)
        found.clear()
        self.assertEqual(lates(PAIR, (0, 1)), {(0, 0): (7, 13)})


class SharesTest(unittest.TestCase):
    def test_pair(self):
        self.assertEqual(shares(PAIR, (0, 1)), (0, 7))
        self.assertEqual(shares(PAIR, (1, 0, 1)), (7, 0, 7))

    def test_a_thread_has_different_shares_in_different_stops(self):
        self.assertEqual(shares(*SEVERAL), (0, 30))

    def test_the_askers_own_moves_are_none(self):
        self.assertEqual(shares(functions_of((("stop",), ("work", 9), ("go",))), (0,)), (0,))

    def test_shares_are_not_met_at_once(self):
        # The lock lets just one of them be far from its end.
        program = (1, 0, ((("stop",), ("go",)),
                          (("safe take", 0), ("work", 40), ("free", 0))))
        self.assertEqual(shares(program, (0, 1, 1)), (0, 42, 42))
        self.assertEqual(judge(program, (0, 1, 1))[1], 43)

    def test_against_all_schedules(self):
        for program, starts, sums, _ in tried_runs():
            wanted = tuple([max([one[0][2][thread] for one in sums]) for thread in range(len(starts))])
            self.assertEqual(shares(program, starts), wanted)
        self.assertGreater(len(tried_runs()), 100)

    def test_schedules(self):
        for program, starts in late_runs():
            found = shares(program, starts)
            self.assertIs(type(found), tuple)
            for thread, share in enumerate(found):
                schedule = share_schedule(program, starts, thread)
                self.assertIs(type(schedule), list)
                story = Story(program, starts, schedule)
                self.assertIsNotNone(story.states[-1][4])
                self.assertEqual(story.sums[2][thread], share)

    def test_by_name_and_new(self):
        self.assertEqual(shares(starts=(0, 1), program=PAIR), (0, 7))
        found = share_schedule(thread=1, starts=(0, 1), program=PAIR)
        wanted = list(found)
        found.clear()
        self.assertEqual(share_schedule(PAIR, (0, 1), thread=1), wanted)

    def test_threads_that_there_are_not(self):
        for wrong in NO_NUMBERS + [2, 3]:
            with self.assertRaises(NoThread):
                share_schedule(PAIR, (0, 1), wrong)
        for program, starts in NOT_LATE:
            with self.assertRaises(NoThread):
                share_schedule(program, starts, len(starts))
