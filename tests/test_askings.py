"""The askings of a program, and the program without some of them."""

import copy
import unittest

from standasked.errors import NoKept
from standasked.programs import askings, is_program, without
from tests.samples import ALL_WORDS, EXAMPLES, NO_NUMBERS, PAIR, functions_of, one_function, works

ASK = ("ask",)
SEVERAL = (1, 1, ((ASK, ("take", 0), ASK), (("call", 2), ("raise", 0)), (("work", 9), ASK)))
SEVERAL_ASKINGS = [(0, 0), (0, 2), (2, 1)]


class AskingsTest(unittest.TestCase):
    def test_none(self):
        self.assertEqual(askings(one_function(("stop",), ("go",))), [])

    def test_ascending(self):
        self.assertEqual(askings(SEVERAL), SEVERAL_ASKINGS)
        self.assertEqual(askings(PAIR), [(1, 1)])
        self.assertEqual(askings(ALL_WORDS), [(1, 1)])
        self.assertEqual(askings(EXAMPLES[4][0]), [(1, 0), (1, 2)])

    def test_all_of_the_greatest_program(self):
        program = functions_of(*[(ASK,) * 10] * 6)
        wanted = [(at, place) for at in range(6) for place in range(10)]
        self.assertEqual(askings(program), wanted)
        self.assertEqual(without(program, wanted), program)
        self.assertEqual(without(program, []), functions_of(*[works(10)] * 6))

    def test_by_name(self):
        self.assertEqual(askings(program=SEVERAL), SEVERAL_ASKINGS)

    def test_the_list_is_new(self):
        found = askings(SEVERAL)
        found.append("more")
        self.assertEqual(askings(SEVERAL), SEVERAL_ASKINGS)


class WithoutTest(unittest.TestCase):
    def test_others_are_work(self):
        wanted = (1, 1, ((("work", 1), ("take", 0), ASK), SEVERAL[2][1], (("work", 9), ("work", 1))))
        self.assertEqual(without(SEVERAL, [(0, 2)]), wanted)
        self.assertIs(is_program(wanted), True)

    def test_none_kept(self):
        wanted = (1, 1, ((("work", 1), ("take", 0), ("work", 1)), SEVERAL[2][1],
                         (("work", 9), ("work", 1))))
        self.assertEqual(without(SEVERAL, []), wanted)

    def test_all_kept_in_any_order(self):
        self.assertEqual(without(SEVERAL, SEVERAL_ASKINGS), SEVERAL)
        self.assertEqual(without(SEVERAL, SEVERAL_ASKINGS[::-1]), SEVERAL)

    def test_each_choice(self):
        for bits in range(8):
            kept = [one for at, one in enumerate(SEVERAL_ASKINGS) if bits >> at & 1]
            changed = without(SEVERAL, kept)
            self.assertIs(is_program(changed), True)
            self.assertEqual(askings(changed), kept)
            self.assertEqual(without(changed, kept), changed)

    def test_by_name(self):
        self.assertEqual(without(kept=[(0, 0)], program=SEVERAL), without(SEVERAL, [(0, 0)]))
        self.assertEqual(without(SEVERAL, kept=[(0, 0)]), without(SEVERAL, [(0, 0)]))

    def test_kept_of_other_kinds(self):
        for wrong in NO_NUMBERS + [0, ((0, 0),), {(0, 0): 1}, "asking"]:
            if wrong == []:
                continue
            with self.assertRaises(NoKept):
                without(SEVERAL, wrong)

    def test_members_of_other_kinds(self):
        for wrong in NO_NUMBERS + [0, [0, 0], (0, 0, 0), (0,), ((0, 0),), (None, 0), (0, [0]),
                                   {(0, 0): 0}, "00"]:
            with self.assertRaises(NoKept):
                without(SEVERAL, [wrong])
            with self.assertRaises(NoKept):
                without(SEVERAL, [(0, 0), wrong])

    def test_booleans_are_no_numbers(self):
        program = functions_of((ASK, ASK), (ASK, ASK))
        for wrong in ((False, 0), (0, False), (True, 1), (1, True), (False, True)):
            self.assertIn(wrong, askings(program))
            with self.assertRaises(NoKept):
                without(program, [wrong])

    def test_places_that_are_no_askings(self):
        for wrong in ((0, 1), (1, 0), (2, 2), (0, 3), (3, 0), (-1, 0), (0, -1), (0, 65536)):
            with self.assertRaises(NoKept):
                without(SEVERAL, [wrong])

    def test_different_ones_alone(self):
        for wrong in ([(0, 0), (0, 0)], [(0, 0), (2, 1), (0, 0)]):
            with self.assertRaises(NoKept):
                without(SEVERAL, wrong)

    def test_kept_stays_as_it_is(self):
        kept = [(2, 1), (0, 0)]
        before = copy.deepcopy(kept)
        changed = without(SEVERAL, kept)
        self.assertEqual(kept, before)
        kept.clear()
        self.assertEqual(askings(changed), [(0, 0), (2, 1)])
