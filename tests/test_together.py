"""What holds of all of this together, on generated programs."""

import functools
import itertools
import random
import unittest

from standasked.errors import TooMany
from standasked.plans import Plan
from standasked.programs import askings, without
from standasked.rounds import gaps, most_stops, overtaken
from standasked.safes import safe, takes
from standasked.standing import chain, standing
from standasked.states import all_states, steps
from standasked.stops import judge, lates, rests, shares
from standasked.texts import read, written
from tests.samples import (EXAMPLES, calm_runs, functions_of, generated_runs, lock_runs, looping_runs,
                           mixed_runs, ordered_runs)
from tests.trying import counting_steps, has_ring, is_holding, is_stuck


@functools.cache
def small_runs():
    """(program, starts, states) of programs with not too many states."""
    found = []
    for program, starts in EXAMPLES + generated_runs(150) + calm_runs(120) + mixed_runs(200):
        try:
            states = all_states(program, starts)
        except TooMany:
            continue
        if len(states) < 600:
            found.append((program, starts, states))
    return found


@functools.cache
def pairs():
    """(fewer, more, starts): programs with fewer and more kept askings."""
    found = []
    for program, starts, _ in small_runs():
        known = askings(program)
        for many in range(min(3, len(known))):
            for kept in itertools.combinations(known, many):
                more = list(kept) + [one for one in known if one not in kept][:1]
                fewer = without(program, list(kept))
                try:
                    all_states(fewer, starts)
                    found.append((fewer, without(program, more), starts))
                except TooMany:
                    pass
    return found


def is_pending(program, state):
    return state[4] is not None and not is_holding(program, state)


@functools.cache
def pending_ring(program, starts):
    return any([is_pending(program, state) and has_ring(program, state)
                for state in all_states(program, starts)])


def requests_several(program, starts):
    """Whether some run requests more than one stop."""
    asked = [state for state in all_states(program, starts) if state[4] is not None]
    layer = [step[2] for state in asked for step in steps(program, starts, state) if step[2][4] is None]
    met = set(layer)
    while layer:
        for _, _, after in steps(program, starts, layer.pop()):
            if after[4] is not None:
                return True
            if after not in met:
                met.add(after)
                layer.append(after)
    return False


class AskingsTest(unittest.TestCase):
    def test_states_without_a_stop_are_states_with_more(self):
        for fewer, more, starts in pairs():
            found = all_states(more, starts)
            for state in all_states(fewer, starts):
                self.assertTrue(state[4] is not None or state in found)

    def test_rests_with_more_are_at_most_those_with_fewer(self):
        seen = 0
        for fewer, more, starts in pairs():
            before, behind = rests(fewer, starts), rests(more, starts)
            if before is None or behind is None:
                continue
            for state, (rest, _) in behind.items():
                if state in before:
                    seen += rest < before[state][0]
                    self.assertLessEqual(rest, before[state][0])
        self.assertGreater(seen, 100)

    def test_with_a_single_stop_more_askings_are_better(self):
        seen = []
        for fewer, more, starts in pairs():
            if requests_several(more, starts):
                continue
            before, behind = judge(fewer, starts), judge(more, starts)
            if before[0] == "late" and behind[0] == "late":
                self.assertLessEqual(behind[1], before[1])
                seen.append("less" if behind[1] < before[1] else "equal")
            if pending_ring(more, starts):
                self.assertTrue(pending_ring(fewer, starts))
                seen.append("ring")
        for word in ("less", "equal", "ring"):
            self.assertGreater(seen.count(word), 3, word)

    def test_with_several_stops_they_need_not_be(self):
        program, starts = EXAMPLES[4]
        self.assertTrue(requests_several(program, starts))
        self.assertGreater(judge(program, starts)[1], judge(without(program, [(1, 2)]), starts)[1])


class StopsTest(unittest.TestCase):
    def test_moves_that_count_do_not_depend_on_outside_threads(self):
        seen = 0
        for program, starts, states in small_runs():
            for state in states:
                if state[4] is None:
                    continue
                counted = counting_steps(program, state)
                for move, _, after in steps(program, starts, state):
                    if move[0] == state[4] or not state[1][move[0]]:
                        continue
                    seen += 1
                    self.assertNotIn(move, [step[0] for step in counted])
                    self.assertEqual([step[:2] for step in counting_steps(program, after)],
                                     [step[:2] for step in counted])
        self.assertGreater(seen, 100)

    def test_a_pending_request_may_be_taken_back(self):
        for program, starts, states in small_runs():
            for threads, outs, locks, flags, asker in states:
                if asker is None or is_holding(program, (threads, outs, locks, flags, asker)):
                    continue
                function, place = threads[asker][-1]
                stack = threads[asker][:-1] + ((function, place - 1),)
                self.assertEqual(program[2][function][place - 1], ("stop",))
                before = threads[:asker] + (stack,) + threads[asker + 1:]
                self.assertIn((before, outs, locks, flags, None), states)

    def test_while_a_stop_holds_nothing_inside_changes_but_by_its_thread(self):
        for program, starts, states in small_runs():
            for state in states:
                if not is_holding(program, state):
                    continue
                for move, _, after in steps(program, starts, state):
                    if move[0] != state[4]:
                        self.assertEqual(after[2:], state[2:])
                        self.assertEqual([stack for stack, out in zip(after[0], state[1]) if not out],
                                         [stack for stack, out in zip(state[0], state[1]) if not out])

    def test_without_a_stop_and_with_one_thread(self):
        seen = 0
        for program, starts, _ in small_runs():
            told = judge(program, starts[:1])
            if told[0] == "late":
                seen += 1
                self.assertEqual(told[1], 0)
            calm = tuple([tuple([("ask",) if one == ("stop",) else one for one in function])
                          for function in program[2]])
            try:
                self.assertEqual(judge((program[0], program[1], calm), starts), ("none",))
            except TooMany:
                pass
        self.assertGreater(seen, 50)

    def test_shares_and_lates(self):
        seen = 0
        for program, starts, _ in small_runs():
            found = shares(program, starts)
            if found is None:
                continue
            _, weight, _, pause, _ = judge(program, starts)
            seen += max(found) < weight < sum(found)
            self.assertLessEqual(weight, sum(found))
            self.assertGreaterEqual(weight, max(found))
            self.assertEqual(max([sums[0] for sums in lates(program, starts).values()]), weight)
            self.assertEqual(max([sums[1] for sums in rests(program, starts).values()]), pause)
        self.assertGreater(seen, 0)


class LocksTest(unittest.TestCase):
    def careful(self, program, states):
        """Whether no thread stands, requests a stop or is done while it holds a lock,
        and each one takes locks in ascending order."""
        for threads, outs, locks, _, asker in states:
            for thread, stack in enumerate(threads):
                held = [lock for lock, holder in enumerate(locks) if holder == thread]
                if not held:
                    continue
                word = ("end",)
                if stack and stack[-1][1] < len(program[2][stack[-1][0]]):
                    word = program[2][stack[-1][0]][stack[-1][1]]
                idle = not stack or asker == thread or outs[thread] or word[0] in ("ask", "stop", "safe take")
                if idle and asker is not None or not stack or word == ("stop",):
                    return False
                if word[0].endswith("take") and word[1] <= max(held):
                    return False
        return True

    def test_careful_threads_are_not_stuck_while_a_stop_is_pending(self):
        seen = []
        runs = [(program, starts, all_states(program, starts)) for program, starts in lock_runs(40)]
        runs += [(program, starts, all_states(program, starts)) for program, starts in self.orderly_runs(40)]
        for program, starts, states in runs + small_runs():
            stuck = [state for state in states if is_pending(program, state) and is_stuck(program, state)]
            if self.careful(program, states):
                self.assertEqual(stuck, [])
                seen.append("careful" if program[0] == 3 else "other")
            elif stuck:
                seen.append("stuck")
        for word in ("careful", "other", "stuck"):
            self.assertGreater(seen.count(word), 10, word)

    def orderly_runs(self, many):
        source = random.Random(1)
        runs = []
        for _ in range(many):
            functions = [(("stop",), ("work", 3), ("go",))]
            for _ in range(2):
                locks = sorted(source.sample(range(3), 2))
                functions.append((("ask",),) + tuple([("take", lock) for lock in locks])
                                 + (("work", 5),) + tuple([("free", lock) for lock in locks]))
            runs.append(((3, 0, tuple(functions)), (0, 1, 2)))
        return runs

    def test_chains_are_there_for_all_stuck_states(self):
        for program, starts, states in small_runs():
            for state in states:
                if is_stuck(program, state):
                    self.assertEqual(chain(program, starts, state) == [], state[0][state[4]] == ())

    def test_who_stands_with_a_lock(self):
        program = (1, 0, ((("stop",), ("take", 0), ("go",)), (("take", 0), ("ask",))))
        self.assertEqual(standing(program, (0, 1)), [(1, 1, 1, (0,))])
        self.assertEqual(judge(program, (0, 1))[0], "stuck")


def is_passed_by_loops(program):
    """Whether each loop of each function, calls in it included, passes an "ask", a
    "safe take" or a "stop": a call goes on at its function and behind itself."""
    places = [(at, place) for at, function in enumerate(program[2]) for place in range(len(function) + 1)]
    nexts = {}
    for at, place in places:
        if place == len(program[2][at]):
            # Back to behind each call of this function.
            nexts[(at, place)] = [(other, here + 1) for other, function in enumerate(program[2])
                                  for here, one in enumerate(function) if one == ("call", at)]
            continue
        word, *numbers = program[2][at][place]
        nexts[(at, place)] = {
            "ask": [], "safe take": [], "stop": [], "jump": [(at, numbers[-1])] if numbers else [],
            "call": [(numbers[0], 0)] if numbers else [],
            "branch": [(at, place + 1), (at, numbers[-1])] if numbers else [],
            "if": [(at, place + 1), (at, numbers[-1])] if numbers else [],
        }.get(word, [(at, place + 1)])
    # Take away again and again what leads to nothing that is left: loops stay.
    left = dict(nexts)
    while True:
        ends = [one for one in left if not any([after in left for after in left[one]])]
        if not ends:
            return not left
        for one in ends:
            del left[one]


class LoopsTest(unittest.TestCase):
    def test_loops_that_pass_a_place_to_stand_make_no_pending_ring(self):
        seen = []
        for program, starts, _ in small_runs():
            ring = pending_ring(program, starts)
            if is_passed_by_loops(program):
                self.assertFalse(ring)
                seen.append("passed")
            elif ring:
                seen.append("ring")
        for word in ("passed", "ring"):
            self.assertGreater(seen.count(word), 20, word)

    def test_each_place_to_stand(self):
        for word, ring in ((("ask",), False), (("safe take", 0), False), (("stop",), False),
                           (("take", 0), True), (("leave",), False), (("work", 3), True), (("go",), True)):
            program = (1, 0, ((("stop",), ("go",)), (word, ("free", 0), ("go",), ("jump", 0))))
            self.assertEqual(pending_ring(program, (0, 1)), ring, word)

    def test_a_loop_past_a_call(self):
        for word in (("ask",), ("work", 1)):
            program = functions_of((("stop",), ("go",)), (("call", 2), ("jump", 0)), (word,))
            self.assertEqual(pending_ring(program, (0, 1)), word == ("work", 1))
            self.assertEqual(is_passed_by_loops(program), word == ("ask",))


@functools.cache
def more_runs():
    """(program, starts, states) of programs with several stops, with locks, and with rounds."""
    found = small_runs()[::2]
    for program, starts in looping_runs(60) + lock_runs(20) + ordered_runs(20):
        try:
            found.append((program, starts, all_states(program, starts)))
        except TooMany:
            continue
    return found


class TextsTest(unittest.TestCase):
    def test_what_is_written_is_read(self):
        for program, _, _ in more_runs():
            self.assertEqual(read(written(program)), program)

    def test_the_text_of_a_program_that_another_text_tells(self):
        source = random.Random(4)
        for program, _, _ in more_runs():
            lines = []
            for line in written(program).split("\n")[:-1]:
                words = [source.choice(["", " ", "   ", "\n", "#\n"])]
                for word in line.split():
                    words += [word, " " * source.randint(1, 4)]
                lines.append("".join(words) + source.choice(["", "# remark", "#", "\n # 1\n"]))
            text = "\n".join(lines) + source.choice(["", "\n", "\n\n  "])
            self.assertNotEqual(text, written(program))
            self.assertEqual(written(read(text)), written(program))


class RoundsTest(unittest.TestCase):
    def test_nobody_is_overtaken_more_often_than_the_most_stops(self):
        seen = []
        for program, starts, _ in more_runs():
            found = overtaken(program, starts)
            told = most_stops(program, starts)
            if told[0] == "most":
                self.assertNotIn(None, found)
                self.assertLessEqual(max(found), told[1])
                seen.append("less" if max(found) < told[1] else "equal" if told[1] else "none")
            else:
                seen.append("endless" if None in found else "other")
        for word in ("less", "none", "endless", "other"):
            self.assertGreater(seen.count(word), 3, word)

    def test_with_one_thread_nobody_is_overtaken(self):
        for program, starts, _ in more_runs():
            for start in sorted(set(starts)):
                try:
                    self.assertEqual(overtaken(program, (start,)), (0,))
                except TooMany:
                    pass

    def test_gaps_need_stops_that_end(self):
        seen = 0
        for program, starts, _ in more_runs():
            if gaps(program, starts):
                self.assertNotEqual(most_stops(program, starts)[:2], ("most", 0))
                seen += 1
        self.assertGreater(seen, 30)


class SafesTest(unittest.TestCase):
    def test_with_all_takes_safe_no_pending_state_is_stuck(self):
        seen = []
        for program, starts, states in more_runs():
            known = takes(program)
            if not known:
                continue
            before = any([is_pending(program, state) and is_stuck(program, state) for state in states])
            made = safe(program, known)
            try:
                found = all_states(made, starts)
            except TooMany:
                continue
            for state in found:
                self.assertFalse(is_pending(made, state) and is_stuck(made, state))
            seen.append(before)
        self.assertGreater(seen.count(True), 5)
        self.assertGreater(seen.count(False), 20)


class PlansTest(unittest.TestCase):
    def test_told_is_the_answer_for_the_present_askings(self):
        source = random.Random(6)
        seen = 0
        for program, starts, _ in more_runs():
            known = askings(program)
            if not known:
                continue
            plan = Plan(program, starts)
            for _ in range(6):
                one = source.choice(known)
                if source.randint(0, 2) == 0 and plan.deeds():
                    plan.undo()
                elif one in plan.kept():
                    plan.leave(one)
                else:
                    plan.keep(one)
                try:
                    told = judge(without(program, plan.kept()), starts)
                except TooMany:
                    with self.assertRaises(TooMany):
                        plan.told()
                    continue
                self.assertEqual(plan.told(), told)
                seen += told != judge(program, starts)
        self.assertGreater(seen, 50)
