"""That the package keeps to the small part of Python that it is written in."""

import ast
import builtins
import pathlib
import unittest

PACKAGE = pathlib.Path(__file__).resolve().parent.parent / "entryhouse"
FILES = sorted(PACKAGE.rglob("*.py"))

MOST_LINES, MOST_FUNCTION_LINES, MOST_SIGNS = 399, 40, 120

STATEMENTS = (
    ast.Assign, ast.AugAssign, ast.If, ast.While, ast.For, ast.Return, ast.Break, ast.Continue, ast.Pass, ast.Raise,
    ast.Try, ast.Expr, ast.FunctionDef, ast.ClassDef, ast.ImportFrom,
)
EXPRESSIONS = (
    ast.Constant, ast.List, ast.Tuple, ast.Dict, ast.BinOp, ast.UnaryOp, ast.BoolOp, ast.Compare, ast.IfExp, ast.Call,
    ast.Attribute, ast.Subscript, ast.Slice, ast.ListComp, ast.JoinedStr, ast.FormattedValue, ast.Name, ast.Lambda,
)
OWN_NAMES = set(
    "len range enumerate zip min max sum abs sorted reversed int str bool list tuple dict set frozenset isinstance ord "
    "repr any all divmod Exception ValueError TypeError KeyError IndexError LookupError ZeroDivisionError "
    "ArithmeticError OverflowError RuntimeError NotImplementedError AttributeError StopIteration".split()
)
METHODS = set(
    "append clear copy count endswith extend find get index insert isalnum isalpha isdigit islower isspace isupper "
    "items join keys ljust lower lstrip partition pop remove replace reverse rfind rjust rpartition rsplit rstrip "
    "setdefault split splitlines startswith strip update upper values zfill bit_length".split()
)
WALKED = {"zip", "enumerate", "reversed", "range"}
WALKERS = {"list", "tuple", "dict", "sorted", "sum", "any", "all", "enumerate", "zip", "min", "max"}
KEYWORDS = {"sorted": {"key", "reverse"}, "min": {"key", "default"}, "max": {"key", "default"},
            "sum": {"start"}, "enumerate": {"start"}, "zip": {"strict"}}
NOT_USED = set(
    "register mro elements open input version_info with_traceback add_note attrgetter breakpoint builtins compile "
    "copyright credits delattr dir eval exec exit gc getattr globals hasattr help id importlib license locals "
    "methodcaller os quit setattr super type vars sys typing enum dataclass print chr format format_map".split()
)
PYTHONS_OWN = set(dir(builtins))
SPECIAL = {"__init__", "__eq__", "__repr__", "__str__", "__len__"}


def tree_of(file):
    return ast.parse(file.read_text(encoding="utf-8"))


def nodes(kind):
    """Each node of a kind, with a text that tells where it stands."""
    for file in FILES:
        for node in ast.walk(tree_of(file)):
            if isinstance(node, kind):
                yield node, f"{file.name}:{getattr(node, 'lineno', 0)}"


def bound_names(tree):
    """All names that a file's functions and loops bind: parameters and locals."""
    for node in ast.walk(tree):
        if isinstance(node, ast.arg):
            yield node.arg, node.lineno
        if isinstance(node, ast.Name) and isinstance(node.ctx, ast.Store):
            yield node.id, node.lineno


class TestFiles(unittest.TestCase):

    def test_nothing_else_lies_in_the_package(self):
        for path in PACKAGE.rglob("*"):
            if "__pycache__" not in path.parts:
                self.assertEqual(path.suffix, ".py", path)
                self.assertRegex(path.stem, "^(__init__|[a-z][a-z0-9_]*)$")

    def test_signs_and_sizes(self):
        for file in FILES:
            lines = file.read_text(encoding="utf-8").split("\n")
            self.assertLessEqual(len(lines) - 1, MOST_LINES, file)
            for at, line in enumerate(lines, start=1):
                self.assertLessEqual(len(line), MOST_SIGNS, f"{file.name}:{at}")
                self.assertTrue(all(" " <= sign <= "~" for sign in line), f"{file.name}:{at}")

    def test_functions_are_short(self):
        for node, where in nodes(ast.FunctionDef):
            self.assertLessEqual(node.end_lineno - node.lineno + 1, MOST_FUNCTION_LINES, where)

    def test_the_top_of_a_file(self):
        for file in FILES:
            body = tree_of(file).body
            self.assertIsInstance(body[0].value.value, str, file)
            names = []
            for node in body[1:]:
                where = f"{file.name}:{node.lineno}"
                self.assertIsInstance(node, (ast.ImportFrom, ast.FunctionDef, ast.ClassDef, ast.Assign), where)
                if isinstance(node, ast.Assign):
                    names.append(node.targets[0].id)
                    for part in ast.walk(node.value):
                        self.assertIsInstance(
                            part, (ast.Constant, ast.Tuple, ast.Dict, ast.Name, ast.Load), where)
                elif not isinstance(node, ast.ImportFrom):
                    names.append(node.name)
            self.assertEqual(len(names), len(set(names)), file)

    def test_imports(self):
        drawn = {}
        for file in FILES:
            own = {node.name for node in tree_of(file).body if isinstance(node, (ast.FunctionDef, ast.ClassDef))}
            drawn[file.stem] = set()
            for node in tree_of(file).body:
                if isinstance(node, ast.ImportFrom):
                    self.assertEqual(node.level, 0, file)
                    self.assertRegex(node.module, "^entryhouse[.][a-z_]+$")
                    source = node.module.split(".")[1]
                    drawn[file.stem].add(source)
                    tops = self.tops(PACKAGE / f"{source}.py")
                    for alias in node.names:
                        self.assertIn(alias.name, tops, file)
                        self.assertIsNone(alias.asname, file)
                        self.assertNotIn(alias.name, own, file)
        while drawn:
            free = [name for name, sources in drawn.items() if not sources & set(drawn)]
            self.assertTrue(free, f"files draw from one another: {sorted(drawn)}")
            drawn = {name: sources for name, sources in drawn.items() if name not in free}

    def tops(self, file):
        """What a file defines itself."""
        names = set()
        for node in tree_of(file).body:
            if isinstance(node, (ast.FunctionDef, ast.ClassDef)):
                names.add(node.name)
            if isinstance(node, ast.Assign):
                names.add(node.targets[0].id)
        return names


class TestStatements(unittest.TestCase):

    def test_statements(self):
        for node, where in nodes(ast.stmt):
            self.assertIsInstance(node, STATEMENTS, where)
            if isinstance(node, ast.Assign):
                self.assertEqual(len(node.targets), 1, where)
            if isinstance(node, (ast.For, ast.While)):
                self.assertEqual(node.orelse, [], where)
            if isinstance(node, ast.Try):
                self.assertEqual(node.finalbody, [], where)
            if isinstance(node, ast.Expr):
                self.assertTrue(isinstance(node.value, ast.Call) or isinstance(node.value.value, str), where)

    def test_functions_and_classes(self):
        for node, where in nodes(ast.FunctionDef):
            self.assertEqual(node.decorator_list, [], where)
            self.assertIsNone(node.returns, where)
            self.assertIsNone(node.args.vararg or node.args.kwarg, where)
            self.assertEqual(node.args.kwonlyargs + node.args.posonlyargs, [], where)
            for value in node.args.defaults:
                self.assertIsInstance(value, ast.Constant, where)
        for node, where in nodes(ast.ClassDef):
            self.assertEqual(node.decorator_list + node.keywords, [], where)
            self.assertLessEqual(len(node.bases), 1, where)
            methods = [part.name for part in node.body if isinstance(part, ast.FunctionDef)]
            self.assertEqual(len(methods), len(set(methods)), where)
            for part in node.body:
                self.assertIsInstance(part, (ast.FunctionDef, ast.Expr), where)

    def test_a_name_is_a_method_or_a_value(self):
        methods, values = set(), set()
        for node, _ in nodes(ast.ClassDef):
            methods |= {part.name for part in node.body if isinstance(part, ast.FunctionDef)}
        for node, _ in nodes(ast.Attribute):
            if isinstance(node.ctx, ast.Store):
                values.add(node.attr)
        self.assertEqual(methods & values, set())


class TestExpressions(unittest.TestCase):

    def test_expressions(self):
        for node, where in nodes(ast.expr):
            self.assertIsInstance(node, EXPRESSIONS, where)
            if isinstance(node, ast.Constant):
                self.assertIn(type(node.value), (int, str, bool, type(None)), where)
                self.assertNotIn("%", str(node.value), where)
            if isinstance(node, ast.BinOp):
                self.assertNotIsInstance(node.op, (ast.Div, ast.MatMult), where)
            if isinstance(node, ast.ListComp):
                self.assertEqual(len(node.generators), 1, where)
                self.assertLessEqual(len(node.generators[0].ifs), 1, where)
            if isinstance(node, ast.FormattedValue):
                self.assertIsInstance(node.value, ast.Name, where)
                self.assertIsNone(node.format_spec, where)

    def test_is_stands_beside_none_and_the_like(self):
        for node, where in nodes(ast.Compare):
            for operator, right in zip(node.ops, node.comparators):
                if isinstance(operator, (ast.Is, ast.IsNot)):
                    self.assertIsInstance(right, ast.Constant, where)
                    self.assertIn(right.value, (None, True, False), where)

    def test_names(self):
        for file in FILES:
            tree = tree_of(file)
            imported = {alias.name for node in tree.body if isinstance(node, ast.ImportFrom) for alias in node.names}
            classes = {node.name for node in tree.body if isinstance(node, ast.ClassDef)}
            for name, line in bound_names(tree):
                where = f"{file.name}:{line} {name}"
                self.assertRegex(name, "^[A-Za-z][A-Za-z0-9_]*$", where)
                self.assertNotIn(name, imported | classes | PYTHONS_OWN, where)
            for node in ast.walk(tree):
                if isinstance(node, ast.Name):
                    self.assertNotIn(node.id, NOT_USED, file)
                    if node.id in PYTHONS_OWN:
                        self.assertIn(node.id, OWN_NAMES, file)
                if isinstance(node, ast.Attribute):
                    self.assertNotIn(node.attr, NOT_USED, file)
                if isinstance(node, (ast.FunctionDef, ast.ClassDef)):
                    self.assertNotIn(node.name, NOT_USED | PYTHONS_OWN, file)
                    if node.name.startswith("_"):
                        self.assertIn(node.name, SPECIAL, file)

    def test_methods(self):
        own = {node.name for node, _ in nodes(ast.FunctionDef)}
        for node, where in nodes(ast.Call):
            if isinstance(node.func, ast.Attribute):
                self.assertIn(node.func.attr, METHODS | own, where)
            name = node.func.id if isinstance(node.func, ast.Name) else ""
            for keyword in node.keywords:
                self.assertIn(keyword.arg, KEYWORDS.get(name, set()), where)

    def test_walked_on_the_spot(self):
        for file in FILES:
            tree = tree_of(file)
            walked = set()
            for node in ast.walk(tree):
                if isinstance(node, (ast.For, ast.comprehension)):
                    walked.add(id(node.iter))
                if isinstance(node, ast.Call) and isinstance(node.func, ast.Name) and node.func.id in WALKERS:
                    walked |= {id(part) for part in node.args}
            for node in ast.walk(tree):
                if isinstance(node, ast.Call):
                    named = isinstance(node.func, ast.Name) and node.func.id in WALKED
                    viewed = isinstance(node.func, ast.Attribute) and node.func.attr in {"items", "keys", "values"}
                    if named or viewed:
                        self.assertIn(id(node), walked, f"{file.name}:{node.lineno}")


if __name__ == "__main__":
    unittest.main()
