"""The package as a whole: what it may hold, by the rules of its language that a reading of its files can see."""

import ast
import builtins
import inspect
import pathlib
import re
import unittest

from lampspeech import lamps

PACKAGE = pathlib.Path(__file__).resolve().parent.parent / "lampspeech"

# L6 and L7, as far as this program needs them: look a further kind of step up there before adding it here.
STEPS = (
    ast.Module, ast.FunctionDef, ast.arguments, ast.arg, ast.Expr, ast.Assign, ast.AugAssign, ast.Return,
    ast.If, ast.For, ast.While, ast.Break, ast.Continue, ast.Pass,
    ast.Name, ast.Constant, ast.List, ast.Tuple, ast.Dict, ast.Subscript, ast.Slice, ast.Attribute, ast.Call,
    ast.ListComp, ast.comprehension, ast.IfExp, ast.BoolOp, ast.UnaryOp, ast.BinOp, ast.Compare,
    ast.boolop, ast.unaryop, ast.operator, ast.cmpop, ast.expr_context,
)
OWN_NAMES = (
    "len range enumerate zip min max sum abs sorted reversed int str bool list tuple dict set frozenset isinstance ord"
    " repr any all divmod"
).split()
METHODS = (
    "append clear copy count endswith extend find get index insert isalnum isalpha isdigit islower isspace isupper"
    " items join keys ljust lower lstrip partition pop remove replace reverse rfind rjust rpartition rsplit rstrip"
    " setdefault split splitlines startswith strip update upper values zfill bit_length"
).split()
WORDS_OUT = (
    "type typing typing_extensions enum Enum IntEnum StrEnum Flag IntFlag Generic Protocol ABC ABCMeta namedtuple"
    " NamedTuple TypedDict TYPE_CHECKING abstractmethod"
).split()


def sources():
    return {path.name: path.read_text("utf-8") for path in sorted(PACKAGE.glob("*.py"))}


class Interface(unittest.TestCase):
    def test_names_and_arguments(self):
        asked = {
            "judge": ["t"],
            "pattern": ["c", "t"],
            "send": ["unit", "t", "s"],
            "many": ["t", "times"],
            "nth": ["i", "t", "times"],
            "units": ["p", "q", "times"],
        }
        for name, arguments in asked.items():
            self.assertEqual(list(inspect.signature(getattr(lamps, name)).parameters), arguments)


class Package(unittest.TestCase):
    def test_holds_plain_files_alone(self):
        names = {path.name for path in PACKAGE.iterdir()} - {"__pycache__"}
        self.assertLessEqual({"__init__.py", "lamps.py"}, names)
        for name in names:
            self.assertRegex(name, r"\A[a-z0-9_]+\.py\Z")

    def test_sizes_and_signs(self):
        for name, source in sources().items():
            lines = source.split("\n")
            self.assertLessEqual(len(lines), 400, name)
            self.assertLessEqual(max(map(len, lines)), 120, name)
            plain = {chr(code) for code in range(32, 127)}
            self.assertLessEqual({sign for line in lines for sign in line}, plain, name)

    def test_functions_are_small(self):
        for name, source in sources().items():
            for node in ast.walk(ast.parse(source)):
                if isinstance(node, ast.FunctionDef):
                    self.assertLessEqual(node.end_lineno - node.lineno + 1, 40, (name, node.name))

    def test_imports_prints_and_reads_nothing(self):
        for name, source in sources().items():
            for node in ast.walk(ast.parse(source)):
                self.assertNotIsInstance(node, (ast.Import, ast.ImportFrom, ast.Global, ast.Nonlocal), name)
                if isinstance(node, ast.Name):
                    self.assertNotIn(node.id, ("print", "input", "open", "exec", "eval", "__import__"), name)

    def test_steps_are_of_the_small_part_alone(self):
        for name, source in sources().items():
            for node in ast.walk(ast.parse(source)):
                self.assertIsInstance(node, STEPS, (name, getattr(node, "lineno", 0)))
                self.assertNotIsInstance(node, (ast.Div, ast.MatMult, ast.Is, ast.IsNot), name)
                if isinstance(node, ast.Constant):
                    self.assertIn(type(node.value), (int, str, bool, type(None)), (name, node.lineno))
                if isinstance(node, (ast.Assign, ast.ListComp)):
                    self.assertEqual(len(node.targets if isinstance(node, ast.Assign) else node.generators), 1, name)

    def test_names_of_pythons_own(self):
        for name, source in sources().items():
            for node in ast.walk(ast.parse(source)):
                if isinstance(node, ast.Attribute):
                    self.assertIn(node.attr, METHODS, (name, node.lineno))
                if isinstance(node, ast.Name) and hasattr(builtins, node.id):
                    self.assertIn(node.id, OWN_NAMES, (name, node.lineno))
                    self.assertIsInstance(node.ctx, ast.Load, (name, node.lineno))
                if isinstance(node, (ast.arg, ast.FunctionDef)):
                    given = node.arg if isinstance(node, ast.arg) else node.name
                    self.assertFalse(hasattr(builtins, given), (name, given))
                    self.assertRegex(given, r"\A[a-z][a-z0-9_]*\Z")

    def test_words_that_stand_nowhere(self):
        for name, source in sources().items():
            words = set(re.findall(r"\w+", source))
            self.assertEqual(words & set(WORDS_OUT), set(), name)
            for part in ("dataclass", "overload", "contextmanager"):
                self.assertNotIn(part, source, name)

    def test_names_of_the_top_are_bound_once_and_to_what_does_not_change(self):
        for name, source in sources().items():
            bound = []
            for node in ast.parse(source).body:
                if isinstance(node, ast.FunctionDef):
                    bound.append(node.name)
                if isinstance(node, ast.Assign):
                    bound.append(node.targets[0].id)
                    self.assertIn(type(ast.literal_eval(node.value)), (int, str, tuple), (name, node.lineno))
            self.assertEqual(len(bound), len(set(bound)), name)

    def test_no_function_calls_itself_in_whatever_many_steps(self):
        calls = {}
        for source in sources().values():
            for node in ast.parse(source).body:
                if isinstance(node, ast.FunctionDef):
                    inner = [each.func for each in ast.walk(node) if isinstance(each, ast.Call)]
                    calls[node.name] = {func.id for func in inner if isinstance(func, ast.Name)}
        for start in calls:
            reached = set()
            ahead = sorted(calls[start])
            while ahead:
                name = ahead.pop()
                if name in calls and name not in reached:
                    reached.add(name)
                    ahead.extend(sorted(calls[name]))
            self.assertNotIn(start, reached)


if __name__ == "__main__":
    unittest.main()
