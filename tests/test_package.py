"""The package as a whole: what it may hold, by the rules of its language that a reading of its files can see."""

import ast
import inspect
import pathlib
import unittest

from lampspeech import lamps

PACKAGE = pathlib.Path(__file__).resolve().parent.parent / "lampspeech"


def sources():
    return {path.name: path.read_text("utf-8") for path in sorted(PACKAGE.glob("*.py"))}


class Interface(unittest.TestCase):
    def test_names_and_arguments(self):
        asked = {
            "judge": ["t"],
            "pattern": ["c", "t"],
            "send": ["unit", "t", "s"],
            "many": ["t", "times"],
            "nth": ["i", "t", "times"],
            "units": ["p", "q", "times"],
        }
        for name, arguments in asked.items():
            self.assertEqual(list(inspect.signature(getattr(lamps, name)).parameters), arguments)


class Package(unittest.TestCase):
    def test_holds_plain_files_alone(self):
        names = {path.name for path in PACKAGE.iterdir()} - {"__pycache__"}
        self.assertLessEqual({"__init__.py", "lamps.py"}, names)
        for name in names:
            self.assertRegex(name, r"\A[a-z0-9_]+\.py\Z")

    def test_sizes_and_signs(self):
        for name, source in sources().items():
            lines = source.split("\n")
            self.assertLessEqual(len(lines), 400, name)
            self.assertLessEqual(max(map(len, lines)), 120, name)
            plain = {chr(code) for code in range(32, 127)}
            self.assertLessEqual({sign for line in lines for sign in line}, plain, name)

    def test_functions_are_small(self):
        for name, source in sources().items():
            for node in ast.walk(ast.parse(source)):
                if isinstance(node, ast.FunctionDef):
                    self.assertLessEqual(node.end_lineno - node.lineno + 1, 40, (name, node.name))

    def test_imports_prints_and_reads_nothing(self):
        for name, source in sources().items():
            for node in ast.walk(ast.parse(source)):
                self.assertNotIsInstance(node, (ast.Import, ast.ImportFrom, ast.Global, ast.Nonlocal), name)
                if isinstance(node, ast.Name):
                    self.assertNotIn(node.id, ("print", "input", "open", "exec", "eval", "__import__"), name)

    def test_no_function_calls_itself_in_whatever_many_steps(self):
        calls = {}
        for source in sources().values():
            for node in ast.parse(source).body:
                if isinstance(node, ast.FunctionDef):
                    inner = [each.func for each in ast.walk(node) if isinstance(each, ast.Call)]
                    calls[node.name] = {func.id for func in inner if isinstance(func, ast.Name)}
        for start in calls:
            reached = set()
            ahead = sorted(calls[start])
            while ahead:
                name = ahead.pop()
                if name in calls and name not in reached:
                    reached.add(name)
                    ahead.extend(sorted(calls[name]))
            self.assertNotIn(start, reached)


if __name__ == "__main__":
    unittest.main()
