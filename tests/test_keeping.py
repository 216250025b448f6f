"""Askings that could be left out, and the cheapest ones that keep a limit."""

import copy
import functools
import itertools
import unittest

from standasked.askings import cheapest, may_go
from standasked.errors import NoNumber, NoPrices, TooMany
from standasked.programs import askings, without
from standasked.states import all_states
from standasked.stops import judge, shares
from tests.samples import (EXAMPLES, NO_NUMBERS, PAIR, STATES_2000, STATES_2001, UP_TO_2000,
                           UP_TO_2008, calm_runs, functions_of, mixed_runs, works)

THREE = EXAMPLES[4][0]
THREE_STARTS = (0, 1, 2)

# Each "ask" splits the work of the second function.
SPLIT = functions_of((("stop",), ("go",)),
                     (("work", 10), ("ask",), ("work", 20), ("ask",), ("work", 30), ("ask",), ("work", 5)))
SPLIT_ASKINGS = [(1, 1), (1, 3), (1, 5)]

EMPTY = functions_of((("stop",), ("go",)), works(3))


def asking_program(many, *last):
    """A program whose second function has many askings, with works between them."""
    words = [word for at in range(many) for word in (("ask",),)]
    return functions_of((("stop",), ("go",)), tuple(words) + last)


def keeps(told, limit):
    return told[0] == "none" or told[0] == "late" and told[1] <= limit


def all_lists(program):
    """All ascending lists of askings."""
    known = askings(program)
    return [list(one) for many in range(len(known) + 1)
            for one in itertools.combinations(known, many)]


def told_of_all(program, starts):
    """What judge tells with each list of askings."""
    return {tuple(kept): judge(without(program, kept), starts) for kept in all_lists(program)}


def wanted_cheapest(told, prices, limit):
    lists = sorted([list(kept) for kept in told],
                   key=lambda one: (sum([prices[asking] for asking in one]), len(one), one))
    bars = []
    for kept in lists:
        if keeps(told[tuple(kept)], limit):
            return sum([prices[asking] for asking in kept]), kept, bars
        bars.append((kept, told[tuple(kept)]))
    return None, None, bars


@functools.cache
def asking_runs():
    """(program, starts, what judge tells with each list) of programs with some askings."""
    found = []
    for program, starts in calm_runs(200) + mixed_runs(200):
        if 2 <= len(askings(program)) <= 4:
            try:
                found.append((program, starts, told_of_all(program, starts)))
            except TooMany:
                pass
    return found


def limits_of(told):
    """Numbers around each lateness."""
    weights = [one[1] for one in told.values() if one[0] == "late"]
    return sorted({0, 65535} | set(weights) | {weight - 1 for weight in weights if weight})


class KeptTest(unittest.TestCase):
    def test_results_are_those_of_the_program(self):
        # Each "ask" that is left out is work of its own: 1 more to do.
        told = [judge(without(SPLIT, kept), (0, 1))[1] for kept in
                ([], [(1, 1)], [(1, 3)], [(1, 5)], SPLIT_ASKINGS)]
        self.assertEqual(told, [10 + 1 + 20 + 1 + 30 + 1 + 5 + 1, 20 + 1 + 30 + 1 + 5 + 1,
                                30 + 1 + 5 + 1, 10 + 1 + 20 + 1 + 30, 30])
        self.assertEqual(shares(without(SPLIT, [(1, 3)]), (0, 1)), (0, 37))


class MayGoTest(unittest.TestCase):
    def test_each_by_itself(self):
        # Without (1, 1) it is 31, without (1, 3) 51, without (1, 5) 37.
        for limit, wanted in ((30, []), (31, [(1, 1)]), (36, [(1, 1)]), (37, [(1, 1), (1, 5)]),
                              (50, [(1, 1), (1, 5)]), (51, SPLIT_ASKINGS), (65535, SPLIT_ASKINGS)):
            self.assertEqual(may_go(SPLIT, (0, 1), limit), wanted, limit)

    def test_rings_keep_no_limit(self):
        self.assertEqual(may_go(THREE, THREE_STARTS, 65535), [(1, 0)])
        self.assertEqual(may_go(THREE, THREE_STARTS, 101), [(1, 0)])
        self.assertEqual(may_go(THREE, THREE_STARTS, 100), [])

    def test_stuck_programs_keep_no_limit(self):
        program = (1, 0, ((("ask",), ("take", 0), ("stop",), ("go",)), (("take", 0), ("free", 0))))
        self.assertEqual(may_go(program, (0, 1), 65535), [])

    def test_none_keeps_each_limit(self):
        program = functions_of((("ask",), ("ask",)))
        self.assertEqual(may_go(program, (0, 0), 0), [(0, 0), (0, 1)])

    def test_without_an_asking(self):
        self.assertEqual(may_go(EMPTY, (0, 1), 0), [])
        self.assertEqual(may_go(EMPTY, (0, 1), 65535), [])

    def test_limit_0(self):
        self.assertEqual(may_go(functions_of((("stop",), ("go",), ("ask",))), (0,), 0), [(0, 2)])
        self.assertEqual(may_go(PAIR, (0, 1), 0), [])
        self.assertEqual(may_go(PAIR, (0, 1), 7), [])
        self.assertEqual(may_go(PAIR, (0, 1), 9), [(1, 1)])

    def test_generated_programs(self):
        seen = 0
        for program, starts, told in asking_runs():
            known = askings(program)
            for limit in limits_of(told):
                wanted = [one for one in known
                          if keeps(told[tuple([other for other in known if other != one])], limit)]
                self.assertEqual(may_go(program, starts, limit), wanted)
                seen += 0 < len(wanted) < len(known)
        self.assertGreater(seen, 10)

    def test_by_name_and_new(self):
        found = may_go(limit=37, starts=(0, 1), program=SPLIT)
        self.assertIs(type(found), list)
        found.clear()
        self.assertEqual(may_go(SPLIT, (0, 1), limit=37), [(1, 1), (1, 5)])

    def test_limits_of_other_kinds(self):
        for wrong in NO_NUMBERS:
            for program in (PAIR, EMPTY):
                with self.assertRaises(NoNumber):
                    may_go(program, (0, 1), wrong)

    def test_too_many_just_without_one(self):
        self.assertEqual(may_go(*STATES_2000, 0), [(0, 7)])
        with self.assertRaises(TooMany):
            may_go(*STATES_2001, 0)
        # The program with all its askings is none of those that are looked at.
        with self.assertRaises(TooMany):
            judge(*UP_TO_2008)
        self.assertEqual(may_go(*UP_TO_2008, 65535), [(1, 4)])
        # No asking, and so none of those programs.
        self.assertEqual(may_go(functions_of(works(10)), (0, 0, 0, 0), 0), [])

    def test_too_many_for_one_of_several(self):
        program, starts = UP_TO_2008
        second = program[2][1][:3] + (("ask",),) + program[2][1][4:]
        several = (0, 0, (program[2][0], second) + program[2][2:])
        self.assertEqual(askings(several), [(1, 3), (1, 4)])
        with self.assertRaises(TooMany):
            may_go(several, starts, 65535)


class CheapestTest(unittest.TestCase):
    def test_example(self):
        found = cheapest(THREE, THREE_STARTS, {(1, 0): 1, (1, 2): 1}, 150)
        self.assertEqual(found[:2], (1, [(1, 2)]))
        self.assertEqual([(one, told[0]) for one, told in found[2]], [([], "ring"), ([(1, 0)], "ring")])

    def test_the_kinds_of_the_answer(self):
        found = cheapest(SPLIT, (0, 1), {one: 1 for one in SPLIT_ASKINGS}, 31)
        self.assertIs(type(found), tuple)
        price, kept, bars = found
        self.assertEqual(price, 2)
        self.assertIs(type(kept), list)
        self.assertIs(type(bars), list)
        for bar in bars:
            self.assertIs(type(bar), tuple)
            self.assertEqual([type(one) for one in bar], [list, tuple])

    def test_equal_prices(self):
        for price in (0, 1, 65535):
            prices = {one: price for one in SPLIT_ASKINGS}
            found = cheapest(SPLIT, (0, 1), prices, 30)
            self.assertEqual(found[:2], (3 * price, SPLIT_ASKINGS))
            self.assertEqual([bar[0] for bar in found[2]], [
                [], [(1, 1)], [(1, 3)], [(1, 5)], [(1, 1), (1, 3)], [(1, 1), (1, 5)], [(1, 3), (1, 5)]])
            for kept, told in found[2]:
                self.assertEqual(told, judge(without(SPLIT, kept), (0, 1)))

    def test_different_prices(self):
        prices = {(1, 1): 5, (1, 3): 3, (1, 5): 2}
        found = cheapest(SPLIT, (0, 1), prices, 30)
        # The second list at 5 is longer than the first one.
        self.assertEqual([bar[0] for bar in found[2]], [
            [], [(1, 5)], [(1, 3)], [(1, 1)], [(1, 3), (1, 5)], [(1, 1), (1, 5)], [(1, 1), (1, 3)]])
        self.assertEqual(found[:2], (10, SPLIT_ASKINGS))
        self.assertEqual(cheapest(SPLIT, (0, 1), prices, 37)[:2], (3, [(1, 3)]))
        prices = {(1, 1): 0, (1, 3): 9, (1, 5): 0}
        found = cheapest(SPLIT, (0, 1), prices, 31)
        self.assertEqual(found[:2], (9, [(1, 3), (1, 5)]))

    def test_prices_0(self):
        # A list with a price of 0 is behind the shorter ones of the same price.
        prices = {(1, 1): 0, (1, 3): 0, (1, 5): 7}
        found = cheapest(SPLIT, (0, 1), prices, 30)
        self.assertEqual([bar[0] for bar in found[2]], [
            [], [(1, 1)], [(1, 3)], [(1, 1), (1, 3)], [(1, 5)], [(1, 1), (1, 5)], [(1, 3), (1, 5)]])

    def test_no_asking_is_needed(self):
        found = cheapest(SPLIT, (0, 1), {one: 0 for one in SPLIT_ASKINGS}, 69)
        self.assertEqual(found, (0, [], []))
        self.assertEqual(cheapest(functions_of(works(2)), (0,), {}, 0), (0, [], []))
        self.assertEqual(cheapest(EMPTY, (0, 1), {}, 4), (0, [], []))

    def test_a_limit_that_none_keeps(self):
        prices = {(1, 1): 4, (1, 3): 1, (1, 5): 2}
        price, kept, bars = cheapest(SPLIT, (0, 1), prices, 29)
        self.assertIsNone(price)
        self.assertIsNone(kept)
        self.assertEqual([bar[0] for bar in bars], [
            [], [(1, 3)], [(1, 5)], [(1, 3), (1, 5)], [(1, 1)], [(1, 1), (1, 3)], [(1, 1), (1, 5)],
            SPLIT_ASKINGS])
        found = cheapest(EMPTY, (0, 1), {}, 3)
        self.assertEqual(found, (None, None, [([], judge(EMPTY, (0, 1)))]))

    def test_limits_are_kept_when_they_are_just_met(self):
        prices = {one: 1 for one in SPLIT_ASKINGS}
        for limit, wanted in ((68, 1), (69, 0), (30, 3), (29, None), (36, 2), (37, 1)):
            self.assertEqual(cheapest(SPLIT, (0, 1), prices, limit)[0], wanted, limit)

    def test_prices_above_all_numbers_in_sum(self):
        prices = {one: 65535 for one in SPLIT_ASKINGS}
        self.assertEqual(cheapest(SPLIT, (0, 1), prices, 30)[0], 3 * 65535)

    def test_six_askings_and_seven(self):
        program = asking_program(6, ("work", 3))
        prices = {(1, at): at + 1 for at in range(6)}
        found = cheapest(program, (0, 1), prices, 0)
        self.assertEqual(found[:2], (None, None))
        self.assertEqual(len(found[2]), 64)
        self.assertEqual(found, wanted_cheapest(told_of_all(program, (0, 1)), prices, 0))
        program = asking_program(7, ("work", 3))
        for limit in (0, 65535):
            with self.assertRaises(TooMany):
                cheapest(program, (0, 1), {(1, at): at for at in range(7)}, limit)
        # It comes behind all other errors.
        with self.assertRaises(NoPrices):
            cheapest(program, (0, 1), {(1, at): at for at in range(6)}, 0)
        with self.assertRaises(NoNumber):
            cheapest(program, (0, 1), {(1, at): at for at in range(7)}, -1)

    def test_too_many_up_to_the_list_returned(self):
        self.assertEqual(len(all_states(*UP_TO_2000)), 2000)
        first = cheapest(*UP_TO_2008, {(1, 4): 0}, 65535)
        self.assertEqual(first, (0, [], []))
        with self.assertRaises(TooMany):
            cheapest(*UP_TO_2008, {(1, 4): 0}, 0)
        program, starts = UP_TO_2000
        lateness = judge(program, starts)[1]
        self.assertEqual(cheapest(program, starts, {(1, 6): 3}, lateness)[:2], (3, [(1, 6)]))
        self.assertEqual(cheapest(*STATES_2000, {(0, 7): 1}, 0), (0, [], []))
        with self.assertRaises(TooMany):
            cheapest(*STATES_2001, {(0, 7): 1}, 0)

    def test_generated_programs(self):
        seen = []
        for program, starts, told in asking_runs()[::4]:
            known = askings(program)
            for limit in limits_of(told):
                for prices in ({one: 1 for one in known}, {one: 9 - at for at, one in enumerate(known)},
                               {one: at % 2 for at, one in enumerate(known)}):
                    before = copy.deepcopy(prices)
                    found = cheapest(program, starts, prices, limit)
                    self.assertEqual(prices, before)
                    self.assertEqual(found, wanted_cheapest(told, prices, limit))
                    seen.append(found[0])
        self.assertGreater(seen.count(None), 30)
        self.assertGreater(len(seen) - seen.count(0) - seen.count(None), 10)

    def test_by_name(self):
        prices = {(1, 1): 4}
        wanted = cheapest(PAIR, (0, 1), prices, 7)
        self.assertEqual(wanted[:2], (4, [(1, 1)]))
        self.assertEqual(cheapest(limit=7, prices=prices, starts=(0, 1), program=PAIR), wanted)

    def test_the_order_of_the_keys_means_nothing(self):
        prices = {(1, 1): 5, (1, 3): 3, (1, 5): 2}
        turned = dict(reversed(list(prices.items())))
        for limit in (29, 30, 31, 37):
            self.assertEqual(cheapest(SPLIT, (0, 1), prices, limit), cheapest(SPLIT, (0, 1), turned, limit))

    def test_prices_of_other_kinds(self):
        good = {(1, 0): 1, (1, 2): 1}
        for wrong in NO_NUMBERS + [[(1, 0), (1, 2)], [1, 1], list(good.items()), tuple(good.items()), "11",
                                   {(1, 0): 1}, {(1, 2): 1}, {(1, 0): 1, (1, 1): 1},
                                   {(1, 0): 1, (1, 2): 1, (1, 3): 1}, {(1, 0): 1, (1, 2): 1, None: 1},
                                   {0: 1, 2: 1}, {1: {0: 1, 2: 1}}]:
            with self.assertRaises(NoPrices):
                cheapest(THREE, THREE_STARTS, wrong, 150)
        for wrong in NO_NUMBERS + [[1], (1, 0)]:
            for asking in good:
                prices = dict(good)
                prices[asking] = wrong
                with self.assertRaises(NoPrices):
                    cheapest(THREE, THREE_STARTS, prices, 150)
        for wrong in NO_NUMBERS:
            if wrong != {}:
                with self.assertRaises(NoPrices):
                    cheapest(EMPTY, (0, 1), wrong, 150)

    def test_limits_of_other_kinds(self):
        for wrong in NO_NUMBERS:
            with self.assertRaises(NoNumber):
                cheapest(PAIR, (0, 1), {(1, 1): 1}, wrong)

    def test_prices_from_0_to_65535(self):
        self.assertEqual(cheapest(PAIR, (0, 1), {(1, 1): 65535}, 7)[0], 65535)
        self.assertEqual(cheapest(PAIR, (0, 1), {(1, 1): 0}, 7)[:2], (0, [(1, 1)]))
        for wrong in (-1, 65536):
            with self.assertRaises(NoPrices):
                cheapest(PAIR, (0, 1), {(1, 1): wrong}, 7)
