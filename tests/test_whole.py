"""What the document says of every function of the interface."""

import copy
import importlib.util
import inspect
import pathlib
import subprocess
import sys
import unittest

from cipherparts import bytesteps
from tests.support import HIGHEST, LOWEST, Watched, spread
from tests.test_form import INTERFACE

PROJECT = pathlib.Path(bytesteps.__file__).parent.parent

# Of each function rows of arguments, and what its answer begins with and how many numbers that has: ordinary
# ones, no blocks, the most blocks that are handed in, and refusals.
CALLS = {
    "mul": [([spread(64, 29, 200), spread(64, 3, 77)], [0], 65), ([[0] * 64, [255] * 64], [0], 65)],
    "inverse": [([spread(64, 29, 200)], [0], 65), ([[0] * 64], [0], 65)],
    "affine": [([spread(64, 29, 200), spread(64, 3, 77), 99], [0], 65), ([[255] * 64, [255] * 64, 0], [0], 65)],
    "composed": [([spread(8, 29, 200), spread(8, 3, 77)], [0], 9), ([[0] * 8, [255] * 8], [0], 9)],
    "step": [([spread(16, 29, 200), spread(16, 3, 77), which], [0], 17)
             for which in (0, 1, 2, 3, 4, 5, -1, LOWEST, HIGHEST)],
    "expand": [([spread(16, 29, 200), 16], [10, 176], 355), ([spread(24, 29, 200), 24], [12, 208], 419),
               ([spread(32, 29, 200), 32], [14, 240], 483), ([[], 0], [0], 1), ([[], HIGHEST], [0], 1)],
    "blocks": [([spread(176, 29, 200), 10, 0, spread(48, 3, 77), 3], [3, 48], 50),
               ([spread(208, 29, 200), 12, 1, spread(48, 3, 77), 3], [3, 48], 50),
               ([spread(240, 29, 200), 14, 0, spread(512, 3, 77), 32], [32, 512], 514),
               ([spread(176, 29, 200), 10, 1, [], 0], [0, 0], 2), ([[], 11, 0, [], 4096], [-1], 1),
               ([[], 10, 0, [], -1], [-1], 1)],
    "carryless": [([0xFEDCBA9876543210, 2 ** 64 - 1], [0], 17), ([0, 0], [0], 17)],
    "tag": [([spread(16, 29, 200), spread(16, 3, 77), spread(48, 11, 5), 3], [3, 16], 18),
            ([spread(16, 29, 200), spread(16, 3, 77), spread(512, 11, 5), 32], [32, 16], 18),
            ([spread(16, 29, 200), spread(16, 3, 77), [], 0], [0, 16], 18), ([[], [], [], 4097], [-1], 1)],
    "digest160": [([spread(20, 29, 200), spread(128, 11, 5), 2], [2, 20], 22),
                  ([spread(20, 29, 200), spread(2048, 11, 5), 32], [32, 20], 22),
                  ([spread(20, 29, 200), [], 0], [0, 20], 22), ([[], [], -1], [-1], 1)],
    "digest256": [([spread(32, 29, 200), spread(128, 11, 5), 2], [2, 32], 34),
                  ([spread(32, 29, 200), spread(2048, 11, 5), 32], [32, 32], 34),
                  ([spread(32, 29, 200), [], 0], [0, 32], 34), ([[], [], LOWEST], [-1], 1)],
}


def all_calls():
    """Every row as a name, its arguments, the answer's beginning and how many numbers it has."""
    return [(name, *row) for name, rows in CALLS.items() for row in rows]


def first_calls():
    return [(name, *rows[0]) for name, rows in CALLS.items()]


def answer_of(name, arguments):
    return getattr(bytesteps, name)(*copy.deepcopy(arguments))


def fresh_module():
    """The module read in anew, as if none of its functions had been called yet."""
    spec = importlib.util.spec_from_file_location("fresh_bytesteps", bytesteps.__file__)
    module = importlib.util.module_from_spec(spec)
    spec.loader.exec_module(module)
    return module


def kept_by(module):
    """All that could outlast a call: the module's values, and what hangs on its functions."""
    kept = {}
    for name, value in vars(module).items():
        if inspect.isfunction(value):
            kept[name] = copy.deepcopy((value.__defaults__, vars(value)))
        elif not name.startswith("__"):
            kept[name] = copy.deepcopy(value)
    return kept


class WholeProgram(unittest.TestCase):
    def test_every_function_is_called_here(self):
        self.assertEqual(list(CALLS), list(INTERFACE))
        self.assertEqual(len(INTERFACE), 11)

    def test_the_answers_form(self):
        for name, arguments, beginning, count in all_calls():
            answer = answer_of(name, arguments)
            self.assertIs(type(answer), list, name)
            self.assertEqual(answer[:len(beginning)], beginning, name)
            self.assertEqual(len(answer), count, name)
            for value in answer:
                self.assertIs(type(value), int, name)
            for value in answer[len(beginning):]:
                self.assertTrue(0 <= value <= 255, (name, value))

    def test_both_rows_of_expand_tell_their_count(self):
        for name, arguments, beginning, count in all_calls():
            if name == "expand" and count > 1:
                self.assertEqual(answer_of(name, arguments)[2 + beginning[1]], beginning[1])

    def test_by_the_names_of_the_arguments(self):
        for name, arguments, beginning, count in all_calls():
            named = dict(zip(INTERFACE[name], copy.deepcopy(arguments), strict=True))
            self.assertEqual(getattr(bytesteps, name)(**named), answer_of(name, arguments), name)

    def test_what_is_handed_in_stays_as_it_was(self):
        for name, arguments, beginning, count in all_calls():
            watched = [Watched(value) if isinstance(value, list) else value for value in arguments]
            before = copy.deepcopy(arguments)
            answer = getattr(bytesteps, name)(*watched)
            self.assertEqual(watched, before, name)
            # The answer is the caller's own: emptying it empties nothing that was handed in.
            answer.clear()
            self.assertEqual(watched, before, name)

    def test_the_same_after_calls_of_the_others(self):
        calls = all_calls()
        first = [answer_of(name, arguments) for name, arguments, beginning, count in calls]
        for name, arguments, beginning, count in calls:
            own = answer_of(name, arguments)
            for other, other_arguments, other_beginning, other_count in first_calls():
                answer_of(other, other_arguments)
                self.assertEqual(answer_of(name, arguments), own, (name, other))
        again = [answer_of(name, arguments) for name, arguments, beginning, count in reversed(calls)]
        self.assertEqual(again[::-1], first)

    def test_the_module_keeps_nothing(self):
        module = fresh_module()
        before = kept_by(module)
        for name, arguments, beginning, count in all_calls():
            getattr(module, name)(*copy.deepcopy(arguments)).clear()
            self.assertEqual(kept_by(module), before, name)

    def test_no_call_goes_deep(self):
        calls = [(name, arguments, beginning[0]) for name, arguments, beginning, count in all_calls()] + [
            ("blocks", [[1] * 176, 10, 0, [2] * 3200, 200], 200),
            ("tag", [[1] * 16, [2] * 16, [3] * 3200, 200], 200),
            ("digest160", [[1] * 20, [2] * 12800, 200], 200),
            ("digest256", [[1] * 32, [2] * 12800, 200], 200)]
        limit = sys.getrecursionlimit()
        for name, arguments, expected in calls:
            function = getattr(bytesteps, name)
            sys.setrecursionlimit(len(inspect.stack(0)) + 25)
            try:
                answer = function(*arguments)
            finally:
                sys.setrecursionlimit(limit)
            self.assertEqual(answer[0], expected)

    def test_nothing_is_printed_read_or_imported(self):
        # A process of its own, without what Python itself brings in at its start (-S): nothing can hide an import.
        rows = [(name, arguments) for name, arguments, beginning, count in all_calls()]
        program = "\n".join([
            "import sys",
            f"rows = {rows!r}",
            "before = set(sys.modules)",
            "from cipherparts import bytesteps",
            "answers = [getattr(bytesteps, name)(*arguments) for name, arguments in rows]",
            "brought = set(sys.modules) - before - {'cipherparts', 'cipherparts.bytesteps'}",
            "left = sys.stdin.read()",
            "sys.exit(0 if not brought and left == 'untouched' and len(answers) == len(rows) else 1)",
        ])
        ended = subprocess.run([sys.executable, "-S", "-E", "-B", "-c", program], cwd=PROJECT, input="untouched",
                               capture_output=True, text=True)
        self.assertEqual((ended.returncode, ended.stdout, ended.stderr), (0, "", ""))


if __name__ == "__main__":
    unittest.main()
