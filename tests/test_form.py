"""The interface as the document tells it, and the form that the package's files keep to."""

import ast
import builtins
import inspect
import pathlib
import re
import unittest

from cipherparts import bytesteps

PACKAGE = pathlib.Path(bytesteps.__file__).parent

INTERFACE = {
    "mul": ["a", "b"],
    "inverse": ["x"],
    "affine": ["x", "m", "c"],
    "composed": ["a", "b"],
    "step": ["s", "k", "which"],
    "expand": ["key", "n"],
    "blocks": ["keys", "rounds", "back", "text", "n"],
    "carryless": ["a", "b"],
    "tag": ["h", "y", "text", "n"],
    "digest160": ["state", "text", "n"],
    "digest256": ["state", "text", "n"],
}

ALLOWED_BUILTINS = set(
    "len range enumerate zip min max sum abs sorted reversed int str bool list tuple dict set frozenset"
    " isinstance ord repr any all divmod Exception ValueError TypeError KeyError IndexError LookupError"
    " ZeroDivisionError ArithmeticError OverflowError RuntimeError NotImplementedError AttributeError"
    " StopIteration".split())

ALLOWED_METHODS = set(
    "append clear copy count endswith extend find get index insert isalnum isalpha isdigit islower isspace"
    " isupper items join keys ljust lower lstrip partition pop remove replace reverse rfind rjust rpartition"
    " rsplit rstrip setdefault split splitlines startswith strip update upper values zfill bit_length".split())

BANNED_WORDS = (
    "type typing typing_extensions enum Enum IntEnum StrEnum Flag IntFlag Generic Protocol ABC ABCMeta"
    " namedtuple NamedTuple TypedDict TYPE_CHECKING abstractmethod".split())

# Narrower than LANGUAGE.md: the functions here need no class, no error and no import.
ALLOWED_NODES = (
    ast.Module, ast.FunctionDef, ast.arguments, ast.arg, ast.Assign, ast.AugAssign, ast.If, ast.While, ast.For,
    ast.Return, ast.Break, ast.Continue, ast.Pass, ast.Expr, ast.Constant, ast.List, ast.Tuple, ast.Dict,
    ast.BinOp, ast.UnaryOp, ast.BoolOp, ast.Compare, ast.IfExp, ast.Call, ast.Attribute, ast.Subscript,
    ast.Slice, ast.ListComp, ast.comprehension, ast.Name, ast.Load, ast.Store, ast.operator, ast.unaryop,
    ast.boolop, ast.cmpop,
)


def sources():
    return sorted(p for p in PACKAGE.rglob("*") if p.is_file() and "__pycache__" not in p.parts)


def all_nodes():
    for path in sources():
        for node in ast.walk(ast.parse(path.read_text("utf-8"))):
            yield path.name, node


class Interface(unittest.TestCase):
    def test_names_and_arguments(self):
        for name, arguments in INTERFACE.items():
            function = getattr(bytesteps, name)
            self.assertTrue(inspect.isfunction(function), name)
            parameters = inspect.signature(function).parameters.values()
            self.assertEqual([p.name for p in parameters], arguments)
            for p in parameters:
                self.assertIs(p.kind, p.POSITIONAL_OR_KEYWORD)
                self.assertIs(p.default, p.empty)


class Form(unittest.TestCase):
    def test_files(self):
        names = [str(p.relative_to(PACKAGE)) for p in sources()]
        self.assertEqual(names, ["__init__.py", "bytesteps.py"])

    def test_size_and_signs(self):
        for path in sources():
            text = path.read_text("utf-8")
            self.assertRegex(text, r"\A[ -~\n]*\Z")
            lines = text.split("\n")
            self.assertLessEqual(len(lines), 400)
            self.assertLessEqual(max(len(line) for line in lines), 120)
            words = re.findall(r"\w+", text)
            self.assertEqual([w for w in words if w in BANNED_WORDS], [])
            self.assertNotRegex(text, "dataclass|overload|contextmanager")

    def test_functions(self):
        for name, node in all_nodes():
            if isinstance(node, ast.FunctionDef):
                self.assertLessEqual(node.end_lineno - node.lineno + 1, 40, node.name)
                self.assertEqual(node.decorator_list, [])
                spare = [node.args.vararg, node.args.kwarg, node.args.kwonlyargs, node.args.posonlyargs]
                self.assertEqual(spare, [None, None, [], []], node.name)

    def test_only_the_allowed_part_of_the_language(self):
        for name, node in all_nodes():
            where = (name, getattr(node, "lineno", 0), type(node).__name__)
            self.assertIsInstance(node, ALLOWED_NODES, where)
            self.assertNotIsInstance(node, (ast.Div, ast.MatMult), where)
            if isinstance(node, ast.Constant):
                self.assertIn(type(node.value), (int, str, bool, type(None)), where)
            if isinstance(node, (ast.For, ast.While)):
                self.assertEqual(node.orelse, [], where)
            if isinstance(node, ast.Assign):
                self.assertEqual(len(node.targets), 1, where)
            if isinstance(node, ast.Attribute):
                self.assertIn(node.attr, ALLOWED_METHODS, where)
            if isinstance(node, (ast.Is, ast.IsNot, ast.Pow)):
                self.fail(where)

    def test_names(self):
        for name, node in all_nodes():
            bound = None
            if isinstance(node, ast.Name):
                if hasattr(builtins, node.id):
                    self.assertIn(node.id, ALLOWED_BUILTINS, name)
                bound = node.id if isinstance(node.ctx, ast.Store) else None
                self.assertRegex(node.id, r"\A[A-Za-z][A-Za-z0-9_]*\Z")
            elif isinstance(node, ast.arg):
                bound = node.arg
            elif isinstance(node, ast.FunctionDef):
                bound = node.name
            if bound is not None:
                self.assertFalse(hasattr(builtins, bound), bound)
                self.assertRegex(bound, r"\A[A-Za-z][A-Za-z0-9_]*\Z")

    def test_top_of_a_file_is_bound_once_to_plain_values(self):
        for path in sources():
            bound = []
            for node in ast.parse(path.read_text("utf-8")).body:
                if isinstance(node, ast.FunctionDef):
                    bound.append(node.name)
                elif isinstance(node, ast.Assign):
                    bound.append(node.targets[0].id)
                    ast.literal_eval(node.value)
                else:
                    self.assertIsInstance(node, ast.Expr)
                    self.assertIsInstance(node.value.value, str)
            self.assertEqual(len(bound), len(set(bound)))


if __name__ == "__main__":
    unittest.main()
