"""The form of the program: those rules of its subset of Python that are simple to look for."""

import ast
import builtins
import pathlib
import re
import unittest

PACKAGE = pathlib.Path(__file__).parent.parent / "depotday"
FILES = sorted(PACKAGE.rglob("*.py"))
BUILTINS = """len range enumerate zip min max sum abs sorted reversed int str bool list tuple dict set isinstance ord
    repr any all divmod iter next map Exception ValueError TypeError KeyError IndexError LookupError ZeroDivisionError
    NotImplemented property staticmethod classmethod super""".split()
METHODS = """append clear copy count endswith extend find get index insert isalnum isalpha isdigit islower isspace
    isupper items join keys ljust lower lstrip partition pop remove replace reverse rfind rjust rpartition rsplit rstrip
    setdefault split splitlines startswith strip update upper values zfill bit_length""".split()
LIBRARY = {"math": ["gcd"], "heapq": ["heappush", "heappop"], "collections": ["deque", "defaultdict"]}
WORDS = """typing enum Enum Flag Generic Protocol ABC namedtuple NamedTuple TypedDict register mro elements open input
    law""".split()
# Generator expressions are let in few places only, so lists stand for them everywhere.
FORBIDDEN = (ast.GeneratorExp, ast.AsyncFunctionDef, ast.Await, ast.AsyncFor, ast.AsyncWith, ast.Import, ast.Div)


def trees():
    return [(path, ast.parse(path.read_text())) for path in FILES]


def nodes():
    """Every node of every file, with its place."""
    return [(f"{path.name}:{getattr(node, 'lineno', 0)}", node) for path, tree in trees() for node in ast.walk(tree)]


class Form(unittest.TestCase):
    def test_only_sources_stand_in_the_package(self):
        self.assertIn("__init__.py", [path.name for path in FILES])
        others = [path for path in PACKAGE.rglob("*") if path.suffix != ".py" and "__pycache__" not in path.parts]
        self.assertEqual(others, [])
        self.assertTrue(all(re.fullmatch("[a-z0-9_]+", path.stem) for path in FILES))

    def test_sizes_and_characters(self):
        for path in FILES:
            text = path.read_text()
            self.assertLess(len(text.splitlines()), 400, path.name)
            for number, line in enumerate(text.split("\n"), 1):
                self.assertRegex(line, "^[ -~]{0,120}$", f"{path.name}:{number}")

    def test_functions_are_small(self):
        for place, node in nodes():
            if isinstance(node, ast.FunctionDef):
                self.assertLessEqual(node.end_lineno - node.lineno + 1, 40, place)

    def test_module_level(self):
        for path, tree in trees():
            bound = []
            for at, node in enumerate(tree.body):
                docstring = at == 0 and isinstance(node, ast.Expr) and isinstance(node.value, ast.Constant)
                kinds = (ast.ImportFrom, ast.FunctionDef, ast.ClassDef, ast.Assign)
                self.assertTrue(docstring or isinstance(node, kinds), f"{path.name}:{node.lineno}")
                if isinstance(node, ast.ImportFrom):
                    bound += [alias.asname or alias.name for alias in node.names]
                elif isinstance(node, (ast.FunctionDef, ast.ClassDef)):
                    bound.append(node.name)
                elif isinstance(node, ast.Assign):
                    bound += [target.id for target in node.targets]
            self.assertEqual(len(bound), len(set(bound)), path.name)

    def test_imports(self):
        for place, node in nodes():
            if isinstance(node, ast.ImportFrom):
                names = [alias.name for alias in node.names]
                if node.module in LIBRARY:
                    self.assertTrue(set(names) <= set(LIBRARY[node.module]), place)
                    continue
                self.assertRegex(node.module, r"^depotday\.[a-z]+$", place)
                source = ast.parse((PACKAGE / (node.module.split(".")[1] + ".py")).read_text())
                own = [getattr(item, "name", None) or getattr(item, "targets", [None])[0] for item in source.body]
                own = [getattr(name, "id", name) for name in own]
                self.assertTrue(set(names) <= set(own), place)

    def test_nothing_outside_of_the_subset(self):
        for place, node in nodes():
            self.assertNotIsInstance(node, FORBIDDEN, place)
            if isinstance(node, ast.Constant):
                self.assertNotIsInstance(node.value, (float, complex, bytes), place)
                self.assertNotIn("%", str(node.value), place)
            if isinstance(node, ast.AugAssign):
                self.assertIsInstance(node.op, (ast.Add, ast.Sub), place)

    def test_builtins(self):
        for place, node in nodes():
            if isinstance(node, ast.Name) and hasattr(builtins, node.id):
                self.assertIn(node.id, BUILTINS, place)
                self.assertIsInstance(node.ctx, ast.Load, place)
            if isinstance(node, ast.arg):
                self.assertFalse(hasattr(builtins, node.arg), place)

    def test_methods(self):
        own = {node.name for _, node in nodes() if isinstance(node, ast.FunctionDef)}
        for place, node in nodes():
            if isinstance(node, ast.Call) and isinstance(node.func, ast.Attribute):
                self.assertIn(node.func.attr, own | set(METHODS), place)

    def test_words(self):
        for place, node in nodes():
            names = [getattr(node, field, None) for field in ("id", "attr", "arg", "name")]
            self.assertFalse(set(WORDS) & set(name for name in names if isinstance(name, str)), place)


if __name__ == "__main__":
    unittest.main()
