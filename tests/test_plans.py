"""Plans: askings that are kept, left out, and taken back."""

import random
import unittest

from standasked.askings import may_go
from standasked.errors import NoKept, NoMove, NoNumber, NoProgram, NoStarts, TooMany
from standasked.plans import Plan
from standasked.programs import askings, without
from standasked.stops import judge
from tests.samples import (EXAMPLES, NO_NUMBERS, NO_PROGRAMS, PAIR, STATES_2000, STATES_2001, UP_TO_2000,
                           UP_TO_2008, calm_runs, functions_of, mixed_runs, works)

# Each "ask" splits the work of the second function.
SPLIT = functions_of((("stop",), ("go",)),
                     (("work", 10), ("ask",), ("work", 20), ("ask",), ("work", 30), ("ask",), ("work", 5)))
A, B, C = (1, 1), (1, 3), (1, 5)

THREE, THREE_STARTS = EXAMPLES[4]

NO_ASKINGS = NO_NUMBERS + [[1, 1], (1, 1, 1), (1,), ((1, 1),), (None, 1), (1, 0), (0, 0), (1, 7), (2, 1), (-1, 1),
                           (1, -1), (True, 1), (1, True), (True, True), "11", [(1, 1)], {(1, 1): 1}]


def plan_of(program, starts, *deeds):
    """A plan after deeds: pairs of a word and an asking, or "undo"."""
    plan = Plan(program, starts)
    for deed in deeds:
        if deed == "undo":
            plan.undo()
        elif deed[0] == "keep":
            plan.keep(deed[1])
        else:
            plan.leave(deed[1])
    return plan


def shown(plan):
    """All that a plan tells, but for what judge tells."""
    return plan.kept(), plan.deeds(), plan.as_program()


class DeedsTest(unittest.TestCase):
    def test_all_are_kept_at_first(self):
        plan = Plan(SPLIT, (0, 1))
        self.assertEqual(shown(plan), ([A, B, C], [], SPLIT))
        plan = Plan(functions_of(works(2)), (0,))
        self.assertEqual(shown(plan), ([], [], functions_of(works(2))))

    def test_leave_and_keep(self):
        plan = Plan(SPLIT, (0, 1))
        self.assertIsNone(plan.leave(B))
        self.assertEqual(shown(plan), ([A, C], [("leave", B)], without(SPLIT, [A, C])))
        self.assertIsNone(plan.leave(A))
        self.assertIsNone(plan.keep(B))
        self.assertEqual(shown(plan), ([B, C], [("leave", B), ("leave", A), ("keep", B)], without(SPLIT, [B, C])))
        plan.leave(C)
        plan.leave(B)
        self.assertEqual(plan.kept(), [])
        for one in (C, A, B):
            plan.keep(one)
        self.assertEqual(plan.kept(), [A, B, C])
        self.assertEqual(plan.as_program(), SPLIT)
        self.assertEqual(len(plan.deeds()), 8)

    def test_undo_down_to_the_first_plan_and_once_more(self):
        plan = plan_of(SPLIT, (0, 1), ("leave", B), ("leave", A), ("keep", B))
        seen = []
        for _ in range(3):
            self.assertIsNone(plan.undo())
            seen.append((plan.kept(), plan.deeds()))
        self.assertEqual(seen, [([C], [("leave", B), ("leave", A)]), ([A, C], [("leave", B)]), ([A, B, C], [])])
        for _ in range(2):
            with self.assertRaises(NoMove):
                plan.undo()
            self.assertEqual(shown(plan), ([A, B, C], [], SPLIT))
        with self.assertRaises(NoMove):
            Plan(SPLIT, (0, 1)).undo()

    def test_what_was_taken_back_stays_so(self):
        # The second undo takes the deed before the one that was taken back.
        plan = plan_of(SPLIT, (0, 1), ("leave", A), ("leave", B), "undo", ("leave", C), "undo", "undo")
        self.assertEqual(shown(plan), ([A, B, C], [], SPLIT))
        plan = plan_of(SPLIT, (0, 1), ("leave", A), "undo", ("leave", A), ("keep", A), "undo")
        self.assertEqual((plan.kept(), plan.deeds()), ([B, C], [("leave", A)]))

    def test_each_call_behind_each_other_one(self):
        source = random.Random(2)
        pairs = set()
        for _ in range(60):
            plan = Plan(SPLIT, (0, 1))
            history = [[A, B, C]]
            deeds = []
            before = "new"
            for _ in range(20):
                word = source.choice(["keep", "leave", "undo", "undo"])
                one = source.choice([A, B, C])
                done = self.done(plan, word, one, history, deeds)
                pairs.add((before, done))
                before = done
                self.assertEqual(shown(plan), (history[-1], deeds, without(SPLIT, history[-1])))
        words = ["keep", "leave", "undo", "no keep", "no leave", "no undo"]
        for one in words:
            for other in words:
                # Where an asking is left out there is something to undo, behind a refused undo there is none.
                if (one, other) not in {("keep", "no undo"), ("leave", "no undo"), ("no leave", "no undo"),
                                        ("no undo", "undo"), ("no undo", "keep"), ("no undo", "no leave")}:
                    self.assertIn((one, other), pairs)

    def done(self, plan, word, one, history, deeds):
        """Do a call of the plan, and the same with the history of what was kept."""
        kept = history[-1]
        if word == "undo" and deeds:
            plan.undo()
            history.pop()
            deeds.pop()
        elif word != "undo" and (one in kept) == (word == "leave"):
            plan.keep(one) if word == "keep" else plan.leave(one)
            history.append(sorted(set(kept) ^ {one}))
            deeds.append((word, one))
        else:
            with self.assertRaises(NoMove if word == "undo" else NoKept):
                plan.undo() if word == "undo" else plan.keep(one) if word == "keep" else plan.leave(one)
            return "no " + word
        return word

    def test_refused_askings_change_nothing(self):
        plan = plan_of(SPLIT, (0, 1), ("leave", B))
        wanted = shown(plan)
        for wrong in NO_ASKINGS:
            with self.assertRaises(NoKept):
                plan.leave(wrong)
            with self.assertRaises(NoKept):
                plan.keep(wrong)
            self.assertEqual(shown(plan), wanted)
        for wrong in (A, C):
            with self.assertRaises(NoKept):
                plan.keep(wrong)
        with self.assertRaises(NoKept):
            plan.leave(B)
        self.assertEqual(shown(plan), wanted)
        plan.undo()
        self.assertEqual(plan.kept(), [A, B, C])

    def test_booleans_are_no_numbers(self):
        program = functions_of((("ask",), ("ask",)), (("ask",), ("ask",)))
        plan = plan_of(program, (0,), ("leave", (0, 0)), ("leave", (1, 1)))
        for wrong in ((True, 0), (0, True), (False, 1), (1, False)):
            with self.assertRaises(NoKept):
                plan.leave(wrong)
        for wrong in ((False, 0), (0, False), (True, 1), (1, True), (True, True)):
            with self.assertRaises(NoKept):
                plan.keep(wrong)
        self.assertEqual(plan.kept(), [(0, 1), (1, 0)])

    def test_by_name(self):
        plan = Plan(starts=(0, 1), program=SPLIT)
        plan.leave(asking=A)
        plan.keep(asking=A)
        plan.leave(asking=B)
        self.assertIs(plan.keeps(limit=51), True)
        self.assertEqual(plan.spare(limit=65535), [A, C])
        self.assertEqual(plan.kept(), [A, C])


class ToldTest(unittest.TestCase):
    def test_split(self):
        # 30 with all, 31 without the first one, 51 without the second one, 37 without the third one.
        plan = Plan(SPLIT, (0, 1))
        self.assertEqual(plan.told(), judge(SPLIT, (0, 1)))
        self.assertEqual(plan.told()[:2], ("late", 30))
        self.assertEqual([plan.keeps(limit) for limit in (0, 29, 30, 31, 65535)], [False, False, True, True, True])
        for limit, wanted in ((0, []), (30, []), (31, [A]), (36, [A]), (37, [A, C]), (50, [A, C]), (51, [A, B, C])):
            self.assertEqual(plan.spare(limit), wanted)
        plan.leave(B)
        self.assertEqual(plan.told()[:2], ("late", 51))
        self.assertEqual([plan.keeps(limit) for limit in (50, 51)], [False, True])
        # Without A, too, it is 10 + 1 + 20 + 1 + 30; without C, too, 20 + 1 + 30 + 1 + 5 + 1.
        for limit, wanted in ((51, []), (57, []), (58, [C]), (61, [C]), (62, [A, C])):
            self.assertEqual(plan.spare(limit), wanted)
        plan.undo()
        self.assertEqual(plan.told()[:2], ("late", 30))

    def test_rings_and_stuck_states_keep_no_limit(self):
        plan = plan_of(THREE, THREE_STARTS, ("leave", (1, 2)))
        self.assertEqual((plan.told()[0], plan.keeps(65535), plan.spare(65535)), ("ring", False, []))
        plan.undo()
        self.assertEqual((plan.told()[:2], plan.keeps(199), plan.keeps(198)), (("late", 199), True, False))
        # Without the first asking it is even better.
        self.assertEqual((plan.spare(101), plan.spare(100)), ([(1, 0)], []))
        program = (1, 0, ((("take", 0), ("stop",), ("go",)), (("take", 0), ("ask",), ("free", 0))))
        plan = Plan(program, (0, 1))
        self.assertEqual((plan.told()[0], plan.keeps(65535), plan.spare(65535)), ("stuck", False, []))

    def test_none_keeps_each_limit(self):
        plan = Plan(functions_of((("ask",), ("ask",))), (0, 0))
        self.assertEqual((plan.told(), plan.keeps(0), plan.spare(0)), (("none",), True, [(0, 0), (0, 1)]))
        plan.leave((0, 0))
        self.assertEqual((plan.told(), plan.keeps(0), plan.spare(0)), (("none",), True, [(0, 1)]))
        self.assertEqual(Plan(functions_of(works(2)), (0,)).spare(0), [])

    def test_generated_programs(self):
        source = random.Random(8)
        seen = []
        for program, starts in calm_runs(120) + mixed_runs(120):
            known = askings(program)
            plan = Plan(program, starts)
            for _ in range(3 if known else 1):
                try:
                    told = plan.told()
                    limit = source.choice([0, 5, 30, 65535] + list(told[1:2] if told[0] == "late" else ()))
                    spare = plan.spare(limit)
                except TooMany:
                    break
                here = plan.as_program()
                self.assertEqual(here, without(program, plan.kept()))
                self.assertEqual(told, judge(here, starts))
                keeps = told[0] == "none" or told[0] == "late" and told[1] <= limit
                self.assertIs(plan.keeps(limit), keeps)
                self.assertEqual(spare, may_go(here, starts, limit))
                self.assertEqual(spare, [one for one in plan.kept()
                                         if self.is_spare(program, starts, plan.kept(), one, limit)])
                seen.append((keeps, bool(spare)))
                if known:
                    one = source.choice(known)
                    plan.leave(one) if one in plan.kept() else plan.keep(one)
        for one in ((True, True), (True, False), (False, False)):
            self.assertGreater(seen.count(one), 10, one)

    def is_spare(self, program, starts, kept, one, limit):
        told = judge(without(program, [other for other in kept if other != one]), starts)
        return told[0] == "none" or told[0] == "late" and told[1] <= limit

    def test_limits_of_other_kinds(self):
        plan = plan_of(SPLIT, (0, 1), ("leave", A))
        wanted = shown(plan)
        for wrong in NO_NUMBERS:
            with self.assertRaises(NoNumber):
                plan.keeps(wrong)
            with self.assertRaises(NoNumber):
                plan.spare(wrong)
        self.assertEqual(shown(plan), wanted)
        # Also where nothing is kept.
        with self.assertRaises(NoNumber):
            Plan(functions_of(works(2)), (0,)).spare(True)

    def test_2000_states_and_one_more(self):
        plan = Plan(*STATES_2000)
        self.assertEqual((plan.told()[:2], plan.keeps(0), plan.spare(0)), (("late", 0), True, [(0, 7)]))
        plan = Plan(*UP_TO_2000)
        self.assertEqual(plan.told(), judge(*UP_TO_2000))
        plan = Plan(*STATES_2001)
        for call in (plan.told, lambda: plan.keeps(0), lambda: plan.spare(65535)):
            with self.assertRaises(TooMany):
                call()
        self.assertEqual(shown(plan), ([(0, 7)], [], STATES_2001[0]))
        # It comes behind all other errors.
        for wrong in (True, -1, 65536, None):
            with self.assertRaises(NoNumber):
                plan.keeps(wrong)
            with self.assertRaises(NoNumber):
                plan.spare(wrong)

    def test_the_states_of_what_is_judged(self):
        plan = Plan(*UP_TO_2008)
        with self.assertRaises(TooMany):
            plan.told()
        with self.assertRaises(TooMany):
            plan.keeps(65535)
        # Only the program without the asking is judged.
        self.assertEqual(plan.spare(65535), [(1, 4)])
        plan.leave((1, 4))
        self.assertEqual((plan.told()[0], plan.keeps(65535), plan.spare(65535)), ("late", True, []))
        plan.keep((1, 4))
        with self.assertRaises(TooMany):
            plan.told()


class EqualTest(unittest.TestCase):
    def assert_equal(self, one, other, equal):
        self.assertIs(one == other, equal)
        self.assertIs(other == one, equal)
        self.assertIs(one != other, not equal)

    def test_equal_whatever_their_deeds(self):
        plans = [plan_of(SPLIT, (0, 1)), plan_of(SPLIT, (0, 1), ("leave", A), ("keep", A)),
                 plan_of(SPLIT, (0, 1), ("leave", B), "undo")]
        others = [plan_of(SPLIT, (0, 1), ("leave", A), ("leave", B)),
                  plan_of(SPLIT, (0, 1), ("leave", B), ("leave", A)),
                  plan_of(SPLIT, (0, 1), ("leave", C), ("leave", B), ("leave", A), ("keep", C))]
        for one in plans + others:
            for other in plans + others:
                self.assert_equal(one, other, (one in plans) == (other in plans))
        one, other = Plan(SPLIT, (0, 1)), Plan(SPLIT, (0, 1))
        self.assertIsNot(one, other)
        one.leave(A)
        self.assert_equal(one, other, False)
        other.leave(A)
        self.assert_equal(one, other, True)

    def test_other_starts_and_programs(self):
        plan = Plan(SPLIT, (0, 1))
        for starts in ((1, 0), (0,), (0, 1, 1), (1,)):
            self.assert_equal(plan, Plan(SPLIT, starts), False)
        self.assert_equal(plan, Plan((0, 1, SPLIT[2]), (0, 1)), False)
        self.assert_equal(plan, Plan(SPLIT, (0, 1)), True)
        # The same program with just its kept askings, but of another one.
        left = plan_of(SPLIT, (0, 1), ("leave", A))
        other = Plan(without(SPLIT, [B, C]), (0, 1))
        self.assertEqual(left.as_program(), other.as_program())
        self.assertEqual(left.kept(), other.kept())
        self.assert_equal(left, other, False)

    def test_equal_to_no_other_value(self):
        plan = Plan(PAIR, (0, 1))
        for other in NO_PROGRAMS + [PAIR, (PAIR, (0, 1)), (PAIR, (0, 1), [(1, 1)]), [(1, 1)], object(), Plan]:
            self.assert_equal(plan, other, False)
        self.assertIs(plan.__eq__(PAIR), False)


class ValuesTest(unittest.TestCase):
    def test_lists_that_the_caller_changes(self):
        plan = plan_of(SPLIT, (0, 1), ("leave", B))
        wanted = shown(plan)
        told = repr(plan.told())
        plan.kept().clear()
        plan.deeds().append(("keep", B))
        plan.spare(65535).clear()
        answer = plan.told()
        answer[2].clear()
        answer[4].append("more")
        self.assertEqual(shown(plan), wanted)
        self.assertEqual(repr(plan.told()), told)
        plan.undo()
        self.assertEqual(shown(plan), ([A, B, C], [], SPLIT))

    def test_earlier_answers_stay(self):
        plan = Plan(SPLIT, (0, 1))
        kept, deeds = plan.kept(), plan.deeds()
        plan.leave(A)
        self.assertEqual((kept, deeds), ([A, B, C], []))
        self.assertIsNot(plan.kept(), plan.kept())
        self.assertIsNot(plan.deeds(), plan.deeds())

    def test_plans_do_not_share_what_they_keep(self):
        one, other = Plan(SPLIT, (0, 1)), Plan(SPLIT, (0, 1))
        one.leave(A)
        self.assertEqual(shown(other), ([A, B, C], [], SPLIT))
        self.assertEqual(askings(SPLIT), [A, B, C])

    def test_the_kinds_of_the_answers(self):
        plan = plan_of(SPLIT, (0, 1), ("leave", B))
        for answer, kind in ((plan.kept(), list), (plan.deeds(), list), (plan.as_program(), tuple),
                             (plan.told(), tuple), (plan.keeps(3), bool), (plan.spare(3), list)):
            self.assertIs(type(answer), kind)
        self.assertEqual(repr(plan.deeds()), "[('leave', (1, 3))]")

    def test_wrong_programs_and_starts(self):
        for wrong in NO_PROGRAMS:
            for starts in ((0,), None, (9,)):
                with self.assertRaises(NoProgram):
                    Plan(wrong, starts)
        for wrong in ((), (2,), (True,), [0], None, (0,) * 5, (0, -1), "01"):
            with self.assertRaises(NoStarts):
                Plan(SPLIT, wrong)

    def test_a_plan_looks_at_no_states_by_itself(self):
        program = functions_of((("ask",),) * 10)
        plan = Plan(program, (0, 0, 0, 0))
        plan.leave((0, 3))
        self.assertEqual(len(plan.kept()), 9)
        with self.assertRaises(TooMany):
            plan.told()
