"""The takes of a program, and the cheapest ones that, made safe, keep a limit."""

import copy
import functools
import itertools
import unittest

from standasked.errors import NoKept, NoNumber, NoPrices, NoProgram, NoStarts, TooMany
from standasked.programs import is_program
from standasked.safes import cheapest_safe, safe, takes
from standasked.states import all_states
from standasked.stops import judge
from tests.samples import (ALL_WORDS, EXAMPLES, NO_NUMBERS, NO_PROGRAMS, PAIR, STATES_2000, STATES_2001,
                           TAKES_2000, TAKES_2008, calm_runs, functions_of, generated_runs, lock_runs,
                           mixed_runs, one_function, works)

SEVERAL = (3, 1, ((("take", 2), ("free", 2), ("take", 0)), (("safe take", 1), ("call", 2)), (("ask",), ("take", 1))))
SEVERAL_TAKES = [(0, 0), (0, 2), (2, 1)]

# Each "take" splits the work of the second function, if it is made safe.
SPLIT = (3, 0, ((("stop",), ("go",)),
                (("work", 10), ("take", 0), ("work", 20), ("take", 1), ("work", 30), ("take", 2), ("work", 5))))
SPLIT_TAKES = [(1, 1), (1, 3), (1, 5)]

EMPTY = functions_of((("stop",), ("go",)), works(3))

# A stop is requested by a thread with the lock for which the other one may wait.
CROSSED = (1, 0, ((("take", 0), ("stop",), ("go",), ("free", 0)), (("take", 0), ("free", 0))))


def keeps(told, limit):
    return told[0] == "none" or told[0] == "late" and told[1] <= limit


def told_of_all(program, starts):
    """What judge tells with each ascending list of takes made safe."""
    known = takes(program)
    return {chosen: judge(safe(program, list(chosen)), starts)
            for many in range(len(known) + 1) for chosen in itertools.combinations(known, many)}


def wanted_cheapest(told, prices, limit):
    bars = []
    for chosen in sorted(told, key=lambda one: (sum([prices[take] for take in one]), len(one), one)):
        if keeps(told[chosen], limit):
            return sum([prices[take] for take in chosen]), list(chosen), bars
        bars.append((list(chosen), told[chosen]))
    return None, None, bars


@functools.cache
def taking_runs():
    """(program, starts, what judge tells with each list) of programs with some takes."""
    found = []
    for program, starts in EXAMPLES + generated_runs(100) + calm_runs(100) + mixed_runs(100) + lock_runs(10):
        if 1 <= len(takes(program)) <= 4:
            try:
                found.append((program, starts, told_of_all(program, starts)))
            except TooMany:
                pass
    return found


class TakesTest(unittest.TestCase):
    def test_ascending_and_without_safe_ones(self):
        self.assertEqual(takes(SEVERAL), SEVERAL_TAKES)
        self.assertEqual(takes(ALL_WORDS), [(0, 4)])
        self.assertEqual(takes(PAIR), [])
        self.assertEqual(takes(one_function(("safe take", 0), locks=1)), [])

    def test_all_of_the_greatest_program(self):
        program = (3, 0, ((("take", 2),) * 10,) * 6)
        wanted = [(at, place) for at in range(6) for place in range(10)]
        self.assertEqual(takes(program), wanted)
        self.assertEqual(safe(program, wanted), (3, 0, ((("safe take", 2),) * 10,) * 6))

    def test_new_and_by_name(self):
        found = takes(program=SEVERAL)
        found.clear()
        self.assertEqual(takes(SEVERAL), SEVERAL_TAKES)

    def test_no_program(self):
        for wrong in NO_PROGRAMS:
            with self.assertRaises(NoProgram):
                takes(wrong)


class SafeTest(unittest.TestCase):
    def test_each_choice(self):
        for bits in range(8):
            chosen = [one for at, one in enumerate(SEVERAL_TAKES) if bits >> at & 1]
            changed = safe(SEVERAL, chosen)
            self.assertIs(is_program(changed), True)
            self.assertEqual(takes(changed), [one for one in SEVERAL_TAKES if one not in chosen])
            self.assertEqual(safe(SEVERAL, chosen[::-1]), changed)

    def test_each_keeps_its_lock(self):
        self.assertEqual(safe(SEVERAL, []), SEVERAL)
        self.assertEqual(safe(SEVERAL, [(2, 1), (0, 0)]), (3, 1, (
            (("safe take", 2), ("free", 2), ("take", 0)), SEVERAL[2][1], (("ask",), ("safe take", 1)))))

    def test_by_name_and_unchanged(self):
        chosen = [(2, 1)]
        self.assertEqual(safe(chosen=chosen, program=SEVERAL), safe(SEVERAL, [(2, 1)]))
        self.assertEqual(chosen, [(2, 1)])

    def test_chosen_of_other_kinds(self):
        for wrong in NO_NUMBERS + [((0, 0),), {(0, 0): 1}, "take", (0, 0)]:
            if wrong != []:
                with self.assertRaises(NoKept):
                    safe(SEVERAL, wrong)
        for wrong in NO_NUMBERS + [[0, 0], (0, 0, 0), (0,), (None, 0), "00", (0, 1), (1, 0), (2, 0), (2, 2),
                                   (3, 0), (-1, 0), (0, -1), (False, 0), (0, False), (2, True)]:
            with self.assertRaises(NoKept):
                safe(SEVERAL, [wrong])
            with self.assertRaises(NoKept):
                safe(SEVERAL, [(0, 0), wrong])

    def test_different_ones_alone(self):
        for wrong in ([(0, 0), (0, 0)], [(0, 0), (2, 1), (0, 0)]):
            with self.assertRaises(NoKept):
                safe(SEVERAL, wrong)

    def test_no_program_comes_first(self):
        for wrong in NO_PROGRAMS:
            for chosen in ([], None, [(0, 0)]):
                with self.assertRaises(NoProgram):
                    safe(wrong, chosen)


class CheapestSafeTest(unittest.TestCase):
    def test_stuck_until_it_is_safe(self):
        self.assertEqual(judge(CROSSED, (0, 1))[0], "stuck")
        price, chosen, bars = cheapest_safe(CROSSED, (0, 1), {(0, 0): 3, (1, 0): 2}, 100)
        self.assertEqual((price, chosen), (2, [(1, 0)]))
        self.assertEqual(bars, [([], judge(CROSSED, (0, 1)))])
        price, chosen, bars = cheapest_safe(CROSSED, (0, 1), {(0, 0): 1, (1, 0): 2}, 100)
        self.assertEqual((price, chosen, [one for one, _ in bars]), (2, [(1, 0)], [[], [(0, 0)]]))

    def test_the_kinds_of_the_answer(self):
        found = cheapest_safe(SPLIT, (0, 1), {one: 1 for one in SPLIT_TAKES}, 31)
        self.assertIs(type(found), tuple)
        self.assertEqual([type(one) for one in found], [int, list, list])
        for bar in found[2]:
            self.assertIs(type(bar), tuple)
            self.assertEqual([type(one) for one in bar], [list, tuple])

    def test_equal_prices(self):
        for price in (0, 1, 65535):
            prices = {one: price for one in SPLIT_TAKES}
            found = cheapest_safe(SPLIT, (0, 1), prices, 30)
            self.assertEqual(found[:2], (3 * price, SPLIT_TAKES))
            self.assertEqual([bar[0] for bar in found[2]], [
                [], [(1, 1)], [(1, 3)], [(1, 5)], [(1, 1), (1, 3)], [(1, 1), (1, 5)], [(1, 3), (1, 5)]])
            for chosen, told in found[2]:
                self.assertEqual(told, judge(safe(SPLIT, chosen), (0, 1)))

    def test_different_prices(self):
        prices = {(1, 1): 5, (1, 3): 3, (1, 5): 2}
        found = cheapest_safe(SPLIT, (0, 1), prices, 30)
        # The second list at 5 is longer than the first one.
        self.assertEqual([bar[0] for bar in found[2]], [
            [], [(1, 5)], [(1, 3)], [(1, 1)], [(1, 3), (1, 5)], [(1, 1), (1, 5)], [(1, 1), (1, 3)]])
        self.assertEqual(found[:2], (10, SPLIT_TAKES))

    def test_prices_0(self):
        prices = {(1, 1): 0, (1, 3): 0, (1, 5): 7}
        found = cheapest_safe(SPLIT, (0, 1), prices, 30)
        self.assertEqual([bar[0] for bar in found[2]], [
            [], [(1, 1)], [(1, 3)], [(1, 1), (1, 3)], [(1, 5)], [(1, 1), (1, 5)], [(1, 3), (1, 5)]])

    def test_none_is_needed(self):
        self.assertEqual(cheapest_safe(SPLIT, (0, 1), {one: 0 for one in SPLIT_TAKES}, 69), (0, [], []))
        self.assertEqual(cheapest_safe(functions_of(works(2)), (0,), {}, 0), (0, [], []))
        self.assertEqual(cheapest_safe(EMPTY, (0, 1), {}, 4), (0, [], []))

    def test_limits_that_are_just_met_or_not(self):
        prices = {one: 1 for one in SPLIT_TAKES}
        for limit, wanted in ((69, 0), (68, 1), (37, 1), (36, 2), (30, 3), (29, None), (0, None)):
            price, chosen, bars = cheapest_safe(SPLIT, (0, 1), prices, limit)
            self.assertEqual(price, wanted, limit)
            self.assertEqual(chosen is None, wanted is None)
            self.assertEqual(len(bars) == 8, wanted is None)
        self.assertEqual(cheapest_safe(EMPTY, (0, 1), {}, 3), (None, None, [([], judge(EMPTY, (0, 1)))]))

    def test_prices_are_read_anew(self):
        prices = {(0, 0): 3, (1, 0): 2}
        self.assertEqual(cheapest_safe(CROSSED, (0, 1), prices, 9)[0], 2)
        prices[(1, 0)] = 4
        price, chosen, bars = cheapest_safe(CROSSED, (0, 1), prices, 9)
        self.assertEqual((price, chosen, len(bars)), (4, [(1, 0)], 2))

    def test_generated_programs(self):
        seen = []
        for program, starts, told in taking_runs()[::2]:
            known = takes(program)
            weights = [one[1] for one in told.values() if one[0] == "late"]
            for limit in sorted({0, 65535} | set(weights)):
                for prices in ({one: 1 for one in known}, {one: 9 - at for at, one in enumerate(known)},
                               {one: at % 2 for at, one in enumerate(known)}):
                    before = copy.deepcopy(prices)
                    found = cheapest_safe(program, starts, prices, limit)
                    self.assertEqual(prices, before)
                    self.assertEqual(found, wanted_cheapest(told, prices, limit))
                    seen.append(found[1])
        self.assertGreater(seen.count(None), 30)
        self.assertGreater(len([one for one in seen if one]), 30)

    def test_by_name_and_order_of_keys(self):
        prices = {(1, 1): 5, (1, 3): 3, (1, 5): 2}
        turned = dict(reversed(list(prices.items())))
        for limit in (29, 30, 31, 37):
            self.assertEqual(cheapest_safe(limit=limit, prices=turned, starts=(0, 1), program=SPLIT),
                             cheapest_safe(SPLIT, (0, 1), prices, limit))

    def test_six_takes_and_seven(self):
        six = (1, 0, ((("stop",), ("go",)), (("take", 0),) * 6))
        prices = {(1, at): at + 1 for at in range(6)}
        found = cheapest_safe(six, (0, 1), prices, 0)
        self.assertEqual(found, wanted_cheapest(told_of_all(six, (0, 1)), prices, 0))
        # The seventh counts, too, where no thread executes it and without any stop.
        for program in ((1, 0, (six[2][0], (("take", 0),) * 7)), (1, 0, ((("ask",),), (("take", 0),) * 7))):
            for limit in (0, 65535):
                with self.assertRaises(TooMany):
                    cheapest_safe(program, (0, 0), {(1, at): at for at in range(7)}, limit)
            # It comes behind all other errors.
            with self.assertRaises(NoStarts):
                cheapest_safe(program, (2,), {(1, at): at for at in range(7)}, 0)
            with self.assertRaises(NoPrices):
                cheapest_safe(program, (0, 1), {(1, at): at for at in range(6)}, 0)
            with self.assertRaises(NoNumber):
                cheapest_safe(program, (0, 1), {(1, at): at for at in range(7)}, -1)

    def test_safe_takes_and_askings_do_not_count(self):
        program = (1, 0, ((("stop",), ("go",)), (("safe take", 0), ("free", 0)) * 4, (("ask",),) * 9))
        self.assertEqual(cheapest_safe(program, (0, 1), {}, 65535), (0, [], []))

    def test_2000_states_up_to_the_list_returned(self):
        self.assertEqual(len(all_states(safe(TAKES_2000[0], [(1, 6)]), TAKES_2000[1])), 2000)
        lateness = judge(safe(TAKES_2000[0], [(1, 6)]), TAKES_2000[1])[1]
        self.assertEqual(cheapest_safe(*TAKES_2000, {(1, 6): 3}, lateness)[:2], (3, [(1, 6)]))
        self.assertEqual(cheapest_safe(*TAKES_2008, {(1, 4): 0}, 65535), (0, [], []))
        with self.assertRaises(TooMany):
            cheapest_safe(*TAKES_2008, {(1, 4): 0}, 0)
        self.assertEqual(cheapest_safe(*STATES_2000, {}, 0), (0, [], []))
        with self.assertRaises(TooMany):
            cheapest_safe(*STATES_2001, {}, 65535)

    def test_prices_of_other_kinds(self):
        good = {(0, 0): 1, (1, 0): 1}
        for wrong in NO_NUMBERS + [[1, 1], list(good.items()), tuple(good), "11", {(0, 0): 1}, {(1, 0): 1},
                                   {(0, 0): 1, (0, 1): 1}, {**good, (0, 1): 1}, {**good, None: 1}, {0: 1, 1: 1}]:
            with self.assertRaises(NoPrices):
                cheapest_safe(CROSSED, (0, 1), wrong, 150)
        for wrong in NO_NUMBERS + [[1], (1, 0)]:
            for take in good:
                with self.assertRaises(NoPrices):
                    cheapest_safe(CROSSED, (0, 1), {**good, take: wrong}, 150)
        # Prices of the askings are none of the takes.
        with self.assertRaises(NoPrices):
            cheapest_safe(PAIR, (0, 1), {(1, 1): 1}, 7)

    def test_limits_of_other_kinds(self):
        for wrong in NO_NUMBERS:
            with self.assertRaises(NoNumber):
                cheapest_safe(PAIR, (0, 1), {}, wrong)
