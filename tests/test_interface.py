"""The names of the interface, the examples, and the form of the package's files."""

import ast
import copy
import inspect
import pathlib
import unittest

import standasked
from standasked import errors, programs, states
from standasked.programs import is_program
from tests.samples import ALL_WORDS, EXAMPLES, PAIR

# The modules outside of the package that it may import from.
LIBRARY = ("heapq", "math", "itertools", "collections")

FOLDER = pathlib.Path(standasked.__file__).parent

SIGNATURES = {
    programs: {"is_program": ["thing"], "askings": ["program"], "without": ["program", "kept"]},
    states: {"first_state": ["program", "starts"], "steps": ["program", "starts", "state"],
             "all_states": ["program", "starts"], "are_all_states": ["program", "starts", "thing"]},
}


class NamesTest(unittest.TestCase):
    def test_functions_with_their_arguments(self):
        for module, functions in SIGNATURES.items():
            for name, arguments in functions.items():
                function = getattr(module, name)
                self.assertEqual(function.__module__, module.__name__)
                found = inspect.signature(function).parameters.values()
                self.assertEqual([one.name for one in found], arguments)
                for one in found:
                    self.assertEqual(one.kind, one.POSITIONAL_OR_KEYWORD)
                    self.assertIs(one.default, one.empty)

    def test_errors_are_defined_in_their_file(self):
        for name, thing in vars(errors).items():
            if isinstance(thing, type):
                self.assertEqual(thing.__module__, "standasked.errors", name)


class ExamplesTest(unittest.TestCase):
    def test_first_example(self):
        program = (0, 0, ((("stop",), ("work", 5), ("go",)), (("work", 7), ("ask",))))
        found = states.steps(program, (0, 1), states.first_state(program, (0, 1)))
        self.assertEqual(repr(found), (
            "[((0, 0), 1, ((((0, 1),), ((1, 0),)), (0, 0), (), (), 0)), "
            "((1, 0), 7, ((((0, 0),), ((1, 1),)), (0, 0), (), (), None))]"))

    def test_programs_of_all_examples(self):
        for program, starts in EXAMPLES:
            self.assertIs(is_program(program), True)
            self.assertEqual(len(states.first_state(program, starts)[0]), len(starts))


class CallsTest(unittest.TestCase):
    """No call changes its arguments, and equal calls return equal results."""

    def test_equal_calls(self):
        state = states.first_state(PAIR, (0, 1))
        things = [states.all_states(PAIR, (0, 1)), {(0, 0): [1, [2]]}, [PAIR, [True]], None]
        calls = [(programs.is_program, (ALL_WORDS,)), (programs.askings, (PAIR,)),
                 (programs.without, (PAIR, [(1, 1)])), (programs.without, (PAIR, [])),
                 (states.first_state, (PAIR, (0, 1))), (states.steps, (PAIR, (0, 1), state)),
                 (states.all_states, (PAIR, (1, 0)))]
        calls += [(programs.is_program, (thing,)) for thing in things]
        calls += [(states.are_all_states, (PAIR, (0, 1), thing)) for thing in things]
        for function, arguments in calls:
            before = copy.deepcopy(arguments)
            first = function(*arguments)
            self.assertEqual(arguments, before)
            again = function(*before)
            self.assertEqual(repr(again), repr(first))
            if isinstance(first, (list, dict)):
                self.assertIsNot(again, first)

    def test_a_call_that_raises_changes_nothing(self):
        kept = [(1, 1), (1, 1)]
        with self.assertRaises(errors.NoKept):
            programs.without(PAIR, kept)
        self.assertEqual(kept, [(1, 1), (1, 1)])


class FilesTest(unittest.TestCase):
    def test_the_folder_holds_files_of_the_package_alone(self):
        found = [path.name for path in FOLDER.iterdir() if path.name != "__pycache__"]
        self.assertEqual([name for name in found if not name.endswith(".py")], [])

    def test_sizes_and_signs(self):
        for path in sorted(FOLDER.glob("*.py")):
            text = path.read_text(encoding="utf-8")
            lines = text.split("\n")
            self.assertLessEqual(len(lines), 399, path.name)
            self.assertLessEqual(max(map(len, lines)), 120, path.name)
            self.assertTrue(all(sign == "\n" or " " <= sign <= "~" for sign in text), path.name)
            for node in ast.walk(ast.parse(text)):
                if isinstance(node, ast.FunctionDef):
                    self.assertLessEqual(node.end_lineno - node.lineno + 1, 40, node.name)
                if isinstance(node, (ast.ImportFrom, ast.Import)):
                    self.assertIsInstance(node, ast.ImportFrom, path.name)
                    own = node.module.startswith("standasked.")
                    self.assertTrue(own or node.module in LIBRARY, path.name)
