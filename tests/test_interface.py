"""The names of the interface, the examples, and the form of the package's files."""

import ast
import copy
import inspect
import pathlib
import unittest

import standasked
from standasked import (askings, errors, machines, plans, programs, rounds, safes, standing, states, stops,
                        texts)
from standasked.programs import is_program
from tests.samples import ALL_WORDS, EXAMPLES, PAIR, with_takes

# The modules outside of the package that it may import from.
LIBRARY = ("heapq", "math", "itertools", "collections")

FOLDER = pathlib.Path(standasked.__file__).parent

SIGNATURES = {
    programs: {"is_program": ["thing"], "askings": ["program"], "without": ["program", "kept"]},
    states: {"first_state": ["program", "starts"], "steps": ["program", "starts", "state"],
             "all_states": ["program", "starts"], "are_all_states": ["program", "starts", "thing"]},
    stops: {"judge": ["program", "starts"], "rests": ["program", "starts"],
            "lates": ["program", "starts"], "shows_rests": ["program", "starts", "thing"],
            "shares": ["program", "starts"], "share_schedule": ["program", "starts", "thread"]},
    askings: {"may_go": ["program", "starts", "limit"],
              "cheapest": ["program", "starts", "prices", "limit"]},
    standing: {"standing": ["program", "starts"],
               "stand_schedule": ["program", "starts", "thread", "function", "place", "locks"],
               "waits_for": ["program", "starts", "state"], "chain": ["program", "starts", "state"]},
    rounds: {"most_stops": ["program", "starts"], "overtaken": ["program", "starts"],
             "gaps": ["program", "starts"], "gap_schedule": ["program", "starts", "one", "other"]},
    safes: {"takes": ["program"], "safe": ["program", "chosen"],
            "cheapest_safe": ["program", "starts", "prices", "limit"]},
    texts: {"written": ["program"], "read": ["text"]},
}

METHODS = {
    machines.Machine: {"step": ["thread", "bit"], "back": ["number"], "stands": ["thread"], "asker": [],
                       "lateness": [], "pause": [], "state": [], "schedule": [], "stops": [], "mark": []},
    plans.Plan: {"keep": ["asking"], "leave": ["asking"], "undo": [], "kept": [], "as_program": [],
                 "told": [], "keeps": ["limit"], "spare": ["limit"], "deeds": []},
}


class NamesTest(unittest.TestCase):
    def test_functions_with_their_arguments(self):
        for module, functions in SIGNATURES.items():
            for name, arguments in functions.items():
                function = getattr(module, name)
                self.assertEqual(function.__module__, module.__name__)
                self.assert_arguments(function, arguments)

    def assert_arguments(self, function, arguments):
        found = inspect.signature(function).parameters.values()
        self.assertEqual([one.name for one in found], arguments)
        for one in found:
            self.assertEqual(one.kind, one.POSITIONAL_OR_KEYWORD)
            self.assertIs(one.default, one.empty)

    def test_methods_with_their_arguments(self):
        self.assertEqual(machines.Machine.__module__, "standasked.machines")
        self.assertEqual(plans.Plan.__module__, "standasked.plans")
        for one, methods in METHODS.items():
            self.assert_arguments(one, ["program", "starts"])
            for name, arguments in methods.items():
                # In the class itself, not in a base class.
                self.assert_arguments(one.__dict__[name], ["self"] + arguments)

    def test_errors_are_defined_in_their_file(self):
        for name, thing in vars(errors).items():
            if isinstance(thing, type):
                self.assertEqual(thing.__module__, "standasked.errors", name)
        self.assertEqual(texts.NoText.__module__, "standasked.texts")


class ExamplesTest(unittest.TestCase):
    def test_first_example(self):
        program = (0, 0, ((("stop",), ("work", 5), ("go",)), (("work", 7), ("ask",))))
        found = states.steps(program, (0, 1), states.first_state(program, (0, 1)))
        self.assertEqual(repr(found), (
            "[((0, 0), 1, ((((0, 1),), ((1, 0),)), (0, 0), (), (), 0)), "
            "((1, 0), 7, ((((0, 0),), ((1, 1),)), (0, 0), (), (), None))]"))

    def test_judge(self):
        self.assertEqual([stops.judge(*EXAMPLES[0])[at] for at in (0, 1, 3)], ["late", 7, 13])
        self.assertEqual(stops.judge(*EXAMPLES[1]), ("stuck", [(0, 0), (0, 0)]))
        self.assertEqual(stops.judge(*EXAMPLES[2]), ("ring", [(0, 0)], [(1, 0), (1, 0)]))
        told = stops.judge(*EXAMPLES[3])
        self.assertEqual([told[0], len(told[1])], ["stuck", 2])

    def test_judge_and_cheapest_with_fewer_askings(self):
        program, starts = EXAMPLES[4]
        told = [stops.judge(program, starts)[:2],
                stops.judge(programs.without(program, [(1, 2)]), starts)[:2],
                stops.judge(programs.without(program, [(1, 0)]), starts)[0]]
        self.assertEqual(told, [("late", 199), ("late", 101), "ring"])
        found = askings.cheapest(program, (0, 1, 2), {(1, 0): 1, (1, 2): 1}, 150)
        self.assertEqual([found[:2], [(one, told[0]) for one, told in found[2]]],
                         [(1, [(1, 2)]), [([], "ring"), ([(1, 0)], "ring")]])

    def test_standing(self):
        program = (0, 0, ((("stop",), ("go",)), (("leave",), ("work", 3))))
        told = [standing.standing(program, (0, 1)),
                len(standing.stand_schedule(program, (0, 1), 1, 1, 2, ())),
                standing.stand_schedule(program, (0, 1), 0, 0, 0, ())]
        self.assertEqual(told, [[(1, 1, 1, ()), (1, 1, 2, ())], 3, None])

    def test_machine(self):
        program = (0, 0, ((("stop",), ("work", 5), ("go",)), (("work", 7), ("ask",))))
        machine = machines.Machine(program, (0, 1))
        told = [machine.step(0, 0), machine.lateness(), machine.stands(0), machine.step(1, 0),
                machine.lateness(), machine.stands(1), machine.step(0, 0), machine.pause(),
                machine.step(0, 0), machine.stops(), machine.asker()]
        self.assertEqual(told, [None, 0, "waits", None, 7, "stands", None, 12, None, [(7, 13)], None])

    def test_programs_of_all_examples(self):
        for program, starts in EXAMPLES:
            self.assertIs(is_program(program), True)
            self.assertEqual(len(states.first_state(program, starts)[0]), len(starts))


def parts_of(thing):
    """All lists and dicts in an answer, itself among them."""
    found = [thing] if isinstance(thing, (list, dict)) else []
    if isinstance(thing, dict):
        thing = list(thing.keys()) + list(thing.values())
    if isinstance(thing, (list, tuple)):
        for one in thing:
            found.extend(parts_of(one))
    return found


def calls():
    """Functions with arguments, for each function one or more."""
    state = states.first_state(PAIR, (0, 1))
    things = [states.all_states(PAIR, (0, 1)), {(0, 0): [1, [2]]}, [PAIR, [True]], None,
              stops.rests(PAIR, (0, 1))]
    found = [(programs.is_program, (ALL_WORDS,)), (programs.askings, (PAIR,)),
             (programs.without, (PAIR, [(1, 1)])), (programs.without, (PAIR, [])),
             (states.first_state, (PAIR, (0, 1))), (states.steps, (PAIR, (0, 1), state)),
             (states.all_states, (PAIR, (1, 0)))]
    found += [(programs.is_program, (thing,)) for thing in things]
    found += [(states.are_all_states, (PAIR, (0, 1), thing)) for thing in things]
    found += [(stops.shows_rests, (PAIR, (0, 1), thing)) for thing in things]
    for program, starts in EXAMPLES:
        found += [(function, (program, starts)) for function in (
            stops.judge, stops.rests, stops.lates, stops.shares, standing.standing)]
        found += [(stops.share_schedule, (program, starts, thread)) for thread in range(len(starts))]
        known = programs.askings(program)
        found += [(askings.may_go, (program, starts, limit)) for limit in (0, 65535)]
        found += [(askings.cheapest, (program, starts, {one: 1 for one in known}, limit))
                  for limit in (0, 150)]
        found += [(standing.waits_for, (program, starts, states.first_state(program, starts)))]
        found += [(standing.stand_schedule, (program, starts) + one)
                  for one in standing.standing(program, starts) + [(0, 0, 0, ())]]
        found += [(function, (program, starts)) for function in (
            rounds.most_stops, rounds.overtaken, rounds.gaps)]
        found += [(rounds.gap_schedule, (program, starts, one, other))
                  for one in range(len(starts)) for other in range(len(starts))]
        found += later_calls(program, starts)
    found += later_calls(with_takes(PAIR), (0, 1)) + [(rounds.gap_schedule, (PAIR, (0, 0), 0, 1))]
    stuck = ((((0, 2),), ((1, 0),)), (0, 0), (0,), (), 0)
    found += [(function, EXAMPLES[1] + (stuck,)) for function in (standing.waits_for, standing.chain)]
    done = (((), ()), (0, 0), (), (), 0)
    return found + [(standing.chain, (PAIR, (0, 1), done))]


def later_calls(program, starts):
    """Functions of safes, texts and plans with arguments."""
    known = safes.takes(program)
    text = texts.written(program)
    found = [(safes.takes, (program,)), (texts.written, (program,)), (texts.read, (text,))]
    found += [(safes.safe, (program, chosen)) for chosen in ([], known, known[::-1])]
    found += [(safes.cheapest_safe, (program, starts, {one: 1 for one in known}, limit)) for limit in (0, 150)]
    return found + [(function, (program, starts)) for function in (plan_lists, plan_told)]


def plan_lists(program, starts):
    """The lists that a plan returns, in one answer."""
    plan = plans.Plan(program, starts)
    for one in plan.kept():
        plan.leave(one)
    for _, one in plan.deeds()[:1]:
        plan.keep(one)
    return plan.kept(), plan.deeds(), plan.spare(150)


def plan_told(program, starts):
    return plans.Plan(program, starts).told()


class CallsTest(unittest.TestCase):
    """No call changes its arguments, and equal calls return equal results."""

    def test_each_function_is_called(self):
        wanted = [function for functions in SIGNATURES.values() for function in functions]
        self.assertEqual({function.__name__ for function, _ in calls()}, set(wanted) | {"plan_lists", "plan_told"})

    def test_equal_calls(self):
        for function, arguments in calls():
            before = copy.deepcopy(arguments)
            first = function(*arguments)
            self.assertEqual(arguments, before)
            again = function(*before)
            self.assertEqual(repr(again), repr(first))
            names = inspect.signature(function).parameters
            named = dict(reversed(list(zip(names, arguments))))
            self.assertEqual(repr(function(**named)), repr(first))

    def test_answers_belong_to_the_caller(self):
        for function, arguments in calls():
            first = function(*arguments)
            wanted = repr(first)
            parts = parts_of(first)
            # No two of one answer are the same one, and none is an argument's.
            others = parts + parts_of(function(*arguments)) + parts_of(arguments)
            self.assertEqual(len({id(one) for one in others}), len(others))
            for one in parts:
                one.clear()
            self.assertEqual(repr(function(*arguments)), wanted)

    def test_a_call_that_raises_changes_nothing(self):
        kept = [(1, 1), (1, 1)]
        with self.assertRaises(errors.NoKept):
            programs.without(PAIR, kept)
        self.assertEqual(kept, [(1, 1), (1, 1)])
        prices = {(1, 1): 1, (1, 2): 3}
        with self.assertRaises(errors.NoPrices):
            askings.cheapest(PAIR, (0, 1), prices, 3)
        self.assertEqual(prices, {(1, 1): 1, (1, 2): 3})
        with self.assertRaises(errors.NoPrices):
            safes.cheapest_safe(PAIR, (0, 1), prices, 3)
        with self.assertRaises(errors.NoKept):
            safes.safe(PAIR, kept)
        self.assertEqual((kept, prices), ([(1, 1), (1, 1)], {(1, 1): 1, (1, 2): 3}))


class FilesTest(unittest.TestCase):
    def test_the_folder_holds_files_of_the_package_alone(self):
        found = [path.name for path in FOLDER.iterdir() if path.name != "__pycache__"]
        self.assertEqual([name for name in found if not name.endswith(".py")], [])

    def test_sizes_and_signs(self):
        for path in sorted(FOLDER.glob("*.py")):
            text = path.read_text(encoding="utf-8")
            lines = text.split("\n")
            self.assertLessEqual(len(lines), 399, path.name)
            self.assertLessEqual(max(map(len, lines)), 120, path.name)
            self.assertTrue(all(sign == "\n" or " " <= sign <= "~" for sign in text), path.name)
            for node in ast.walk(ast.parse(text)):
                if isinstance(node, ast.FunctionDef):
                    self.assertLessEqual(node.end_lineno - node.lineno + 1, 40, node.name)
                if isinstance(node, (ast.ImportFrom, ast.Import)):
                    self.assertIsInstance(node, ast.ImportFrom, path.name)
                    own = node.module.startswith("standasked.")
                    self.assertTrue(own or node.module in LIBRARY, path.name)
