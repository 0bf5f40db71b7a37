"""The form of the program: those rules of its subset of Python that are simple to look for."""

import ast
import builtins
import pathlib
import re
import unittest

PACKAGE = pathlib.Path(__file__).parent.parent / "depotday"
FILES = sorted(PACKAGE.rglob("*.py"))
BUILTINS = """len range enumerate zip min max sum abs sorted reversed int str bool list tuple dict set isinstance ord
    repr any all divmod iter next map Exception ValueError TypeError KeyError IndexError LookupError ZeroDivisionError
    NotImplemented property staticmethod classmethod super""".split()
METHODS = """append clear copy count endswith extend find get index insert isalnum isalpha isdigit islower isspace
    isupper items join keys ljust lower lstrip partition pop remove replace reverse rfind rjust rpartition rsplit rstrip
    setdefault split splitlines startswith strip update upper values zfill bit_length""".split()
LIBRARY = {"math": ["gcd"], "heapq": ["heappush", "heappop"], "collections": ["deque", "defaultdict"]}
WORDS = """typing enum Enum Flag Generic Protocol ABC namedtuple NamedTuple TypedDict register mro elements open input
    law""".split()
# An interactive reader, as a doctest is one, adds the name _ to the builtins.
ALL_BUILTINS = set(dir(builtins)) - {"_"}
DECORATORS = ("property", "staticmethod", "classmethod")
# Methods that an operator, a property and the like must not use on what they did not create.
CHANGING = ("append", "clear", "extend", "insert", "pop", "remove", "reverse", "setdefault", "update", "put")
# Generator expressions are let in few places only, so lists stand for them everywhere.
FORBIDDEN = (ast.GeneratorExp, ast.AsyncFunctionDef, ast.Await, ast.AsyncFor, ast.AsyncWith, ast.Import, ast.Div,
             ast.Pow, ast.Global, ast.AnnAssign)


def trees():
    return [(path, ast.parse(path.read_text())) for path in FILES]


def nodes():
    """Every node of every file, with its place."""
    return [(f"{path.name}:{getattr(node, 'lineno', 0)}", node) for path, tree in trees() for node in ast.walk(tree)]


class Form(unittest.TestCase):
    def test_only_sources_stand_in_the_package(self):
        self.assertIn("__init__.py", [path.name for path in FILES])
        others = [path for path in PACKAGE.rglob("*") if path.suffix != ".py" and "__pycache__" not in path.parts]
        self.assertEqual(others, [])
        self.assertTrue(all(re.fullmatch("[a-z0-9_]+", path.stem) for path in FILES))

    def test_sizes_and_characters(self):
        for path in FILES:
            text = path.read_text()
            self.assertLess(len(text.splitlines()), 400, path.name)
            for number, line in enumerate(text.split("\n"), 1):
                self.assertRegex(line, "^[ -~]{0,120}$", f"{path.name}:{number}")

    def test_functions_are_small(self):
        for place, node in nodes():
            if isinstance(node, ast.FunctionDef):
                self.assertLessEqual(node.end_lineno - node.lineno + 1, 40, place)

    def test_module_level(self):
        for path, tree in trees():
            bound = []
            for at, node in enumerate(tree.body):
                docstring = at == 0 and isinstance(node, ast.Expr) and isinstance(node.value, ast.Constant)
                kinds = (ast.ImportFrom, ast.FunctionDef, ast.ClassDef, ast.Assign)
                self.assertTrue(docstring or isinstance(node, kinds), f"{path.name}:{node.lineno}")
                if isinstance(node, ast.ImportFrom):
                    bound += [alias.asname or alias.name for alias in node.names]
                elif isinstance(node, (ast.FunctionDef, ast.ClassDef)):
                    bound.append(node.name)
                elif isinstance(node, ast.Assign):
                    bound += [target.id for target in node.targets]
            self.assertEqual(len(bound), len(set(bound)), path.name)

    def test_imports(self):
        for place, node in nodes():
            if isinstance(node, ast.ImportFrom):
                names = [alias.name for alias in node.names]
                if node.module in LIBRARY:
                    self.assertTrue(set(names) <= set(LIBRARY[node.module]), place)
                    continue
                self.assertRegex(node.module, r"^depotday\.[a-z]+$", place)
                source = ast.parse((PACKAGE / (node.module.split(".")[1] + ".py")).read_text())
                own = [getattr(item, "name", None) or getattr(item, "targets", [None])[0] for item in source.body]
                own = [getattr(name, "id", name) for name in own]
                self.assertTrue(set(names) <= set(own), place)

    def test_nothing_outside_of_the_subset(self):
        for place, node in nodes():
            self.assertNotIsInstance(node, FORBIDDEN, place)
            if isinstance(node, ast.Constant):
                self.assertNotIsInstance(node.value, (float, complex, bytes), place)
                self.assertNotIn("%", str(node.value), place)
            if isinstance(node, ast.AugAssign):
                self.assertIsInstance(node.op, (ast.Add, ast.Sub), place)

    def test_builtins(self):
        for place, node in nodes():
            if isinstance(node, ast.Name) and node.id in ALL_BUILTINS:
                self.assertIn(node.id, BUILTINS, place)
                self.assertIsInstance(node.ctx, ast.Load, place)
            if isinstance(node, ast.arg):
                self.assertNotIn(node.arg, ALL_BUILTINS, place)
                self.assertIsNone(node.annotation, place)

    def test_methods(self):
        own = {node.name for _, node in nodes() if isinstance(node, ast.FunctionDef)}
        for place, node in nodes():
            if isinstance(node, ast.Call) and isinstance(node.func, ast.Attribute):
                self.assertIn(node.func.attr, own | set(METHODS), place)

    def test_words(self):
        for place, node in nodes():
            names = [getattr(node, field, None) for field in ("id", "attr", "arg", "name")]
            self.assertFalse(set(WORDS) & set(name for name in names if isinstance(name, str)), place)

    def test_no_local_name_hides_a_class_or_an_import(self):
        for path, tree in trees():
            taken = {node.name for node in tree.body if isinstance(node, ast.ClassDef)}
            taken |= {alias.name for node in tree.body if isinstance(node, ast.ImportFrom) for alias in node.names}
            for function in ast.walk(tree):
                if isinstance(function, ast.FunctionDef):
                    self.assertEqual(local_names(function) & taken, set(), f"{path.name}: {function.name}")

    def test_no_files_import_each_other(self):
        froms = {path.stem: {node.module.split(".")[1] for node in tree.body if isinstance(node, ast.ImportFrom)
                             and node.module.startswith("depotday.")} for path, tree in trees()}
        while froms:
            free = [name for name in froms if not froms[name] & set(froms)]
            self.assertTrue(free, froms)
            for name in free:
                del froms[name]

    def test_is_stands_beside_plain_values_only(self):
        for place, node in nodes():
            if isinstance(node, ast.Compare) and any(isinstance(op, (ast.Is, ast.IsNot)) for op in node.ops):
                self.assertIsInstance(node.comparators[0], ast.Constant, place)

    def test_methods_and_attributes_have_different_names(self):
        for path, tree in trees():
            for owner in ast.walk(tree):
                if isinstance(owner, ast.ClassDef):
                    methods = {node.name for node in owner.body if isinstance(node, ast.FunctionDef)}
                    self.assertEqual(methods & assigned_attributes(owner), set(), f"{path.name}: {owner.name}")

    def test_properties_have_names_of_their_own(self):
        functions = [node for _, node in nodes() if isinstance(node, ast.FunctionDef)]
        properties = {node.name for node in functions if words_over(node) == ["property"]}
        fixed = {node.name for node in functions if words_over(node) in (["staticmethod"], ["classmethod"])}
        others = {node.name for node in functions if not words_over(node)}
        attributes = set().union(*[assigned_attributes(tree) for _, tree in trees()])
        self.assertEqual((properties | fixed) & (others | attributes), set())
        self.assertEqual(properties & fixed, set())

    def test_decorators(self):
        for place, node in nodes():
            if isinstance(node, (ast.FunctionDef, ast.ClassDef)):
                self.assertTrue(all(word in DECORATORS or word == f"{node.name}.setter" for word in words_over(node)), place)

    def test_sets_and_reversed(self):
        for path, tree in trees():
            inside = {id(argument): node.func.id for node in ast.walk(tree) if isinstance(node, ast.Call)
                      and isinstance(node.func, ast.Name) for argument in node.args}
            for node in ast.walk(tree):
                place = f"{path.name}:{getattr(node, 'lineno', 0)}"
                if isinstance(node, ast.Call) and getattr(node.func, "id", "") == "set":
                    self.assertIn(inside.get(id(node)), ("sorted", "len"), place)
                if isinstance(node, ast.Call) and getattr(node.func, "id", "") == "reversed":
                    found = getattr(getattr(node.args[0], "func", None), "id", "")
                    self.assertIn(found, ("list", "tuple", "sorted", "range"), place)
                self.assertNotIsInstance(node, (ast.Set, ast.SetComp), place)

    def test_what_operators_and_properties_run_changes_nothing(self):
        functions = {}
        for _, node in nodes():
            if isinstance(node, ast.FunctionDef):
                functions.setdefault(node.name, []).append(node)
        waiting = [node for _, node in nodes() if isinstance(node, ast.FunctionDef) and is_quiet(node)]
        seen = []
        while waiting:
            node = waiting.pop()
            if node not in seen:
                seen.append(node)
                waiting += [other for name in called_names(node) for other in functions.get(name, [])
                            if name not in METHODS and other.name != "__init__"]
        for node in seen:
            place = f"{node.name}:{node.lineno}"
            self.assertFalse(set(called_names(node)) & set(CHANGING), place)
            self.assertFalse(any(isinstance(part, ast.AugAssign) for part in ast.walk(node)), place)
            self.assertEqual(assigned_attributes(node), set(), place)

    def test_what_a_loop_walks_is_not_changed_in_it(self):
        for place, function in nodes():
            if isinstance(function, ast.FunctionDef):
                alike = names_alike(function)
                for loop in ast.walk(function):
                    if isinstance(loop, ast.For):
                        walked = {name for part in walked_parts(loop.iter) for name in alike.get(part, {part})}
                        changed = {part for row in loop.body for part in changed_parts(row)}
                        self.assertEqual(walked & changed, set(), f"{place} {function.name}:{loop.lineno}")

    def test_the_check_of_loops_itself(self):
        for text, wrong in (("for x in xs:\n  xs.append(x)", True), ("for x in list(xs):\n  xs.append(x)", False),
                            ("for k, x in enumerate(a.xs):\n  a.xs[k] = 1", True), ("for x in xs:\n  ys[0] += x", False),
                            ("while ys:\n  xs = []\n  for y in ys:\n    xs.append(y)\n  ys = xs", True),
                            ("for x in xs[1]:\n  xs[2] = x", True), ("for k in xs.items():\n  del xs[k]", True),
                            ("for x in xs if k else ys:\n  ys.pop()", True)):
            function = ast.parse("def f():\n" + "\n".join("  " + row for row in text.split("\n"))).body[0]
            alike = names_alike(function)
            found = [loop for loop in ast.walk(function) if isinstance(loop, ast.For)]
            walked = {name for part in walked_parts(found[0].iter) for name in alike.get(part, {part})}
            changed = {part for row in found[0].body for part in changed_parts(row)}
            self.assertEqual(bool(walked & changed), wrong, text)


def part_of(node):
    """What stands for a list or a dict: a name or a field; for an item of one, this one."""
    while isinstance(node, ast.Subscript):
        node = node.value
    return ast.unparse(node) if isinstance(node, (ast.Name, ast.Attribute)) else None


def walked_parts(node):
    """The parts that a loop over this goes over itself, not over a copy of them."""
    if isinstance(node, ast.Call):
        views = isinstance(node.func, ast.Attribute) and node.func.attr in ("items", "keys", "values")
        over = getattr(node.func, "id", "") in ("enumerate", "zip", "reversed")
        inside = [node.func.value] if views else node.args if over else []
    else:
        inside = {ast.IfExp: lambda: [node.body, node.orelse], ast.BoolOp: lambda: node.values}.get(type(node), list)()
    return {part_of(node)} - {None} | {part for one in inside for part in walked_parts(one)}


def changed_parts(tree):
    """The parts that rows change by an item or by a method."""
    found = set()
    for node in ast.walk(tree):
        if isinstance(node, ast.Subscript) and isinstance(node.ctx, (ast.Store, ast.Del)):
            found.add(part_of(node))
        if isinstance(node, ast.Call) and isinstance(node.func, ast.Attribute) and node.func.attr in CHANGING:
            found.add(part_of(node.func.value))
        if isinstance(node, ast.AugAssign):
            found.add(part_of(node.target))
    return found - {None}


def names_alike(function):
    """For each part the parts that stand for the same list or dict somewhere in a function."""
    alike = {}
    for node in ast.walk(function):
        if isinstance(node, ast.Assign):
            for target in node.targets:
                pair = {part_of(target), *walked_parts(node.value)} - {None}
                plain = isinstance(node.value, (ast.Name, ast.Attribute, ast.Subscript, ast.IfExp, ast.BoolOp))
                if plain and len(pair) > 1:
                    group = pair.union(*[alike.get(part, set()) for part in pair])
                    alike.update({part: group for part in group})
    return alike


def words_over(node):
    return [ast.unparse(word) for word in node.decorator_list]


def is_quiet(node):
    """True for what must change nothing: operators, properties, comparisons and the like."""
    loud = ("__init__", "__iadd__", "__setitem__", "__call__")
    return node.name[:2] == "__" and node.name not in loud or words_over(node) == ["property"]


def called_names(node):
    return [getattr(part.func, "id", getattr(part.func, "attr", "")) for part in ast.walk(node)
            if isinstance(part, ast.Call)]


def assigned_attributes(tree):
    return {node.attr for node in ast.walk(tree) if isinstance(node, ast.Attribute) and isinstance(node.ctx, ast.Store)}


def local_names(function):
    """Parameters and everything that a function assigns, the functions nested in it included."""
    names = {node.arg for node in ast.walk(function) if isinstance(node, ast.arg)}
    names |= {node.id for node in ast.walk(function) if isinstance(node, ast.Name) and isinstance(node.ctx, ast.Store)}
    nested = {node.name for node in ast.walk(function) if isinstance(node, ast.FunctionDef) and node is not function}
    return names | nested


if __name__ == "__main__":
    unittest.main()
