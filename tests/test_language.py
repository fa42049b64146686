"""The package keeps to the part of Python that the project allows, as far as a walk of its code can see."""

import ast
import builtins
import pathlib
import re
import unittest

PACKAGE = pathlib.Path(__file__).resolve().parent.parent / "cruiseship"
FILES = sorted(PACKAGE.glob("*.py"))

ALLOWED_NAMES = set(
    "len range enumerate zip min max sum abs sorted reversed int str bool list tuple dict set frozenset isinstance "
    "ord repr any all divmod".split())
ALLOWED_METHODS = set(
    "append clear copy count endswith extend find get index insert isalnum isalpha isdigit islower isspace isupper "
    "items join keys ljust lower lstrip partition pop remove replace reverse rfind rjust rpartition rsplit rstrip "
    "setdefault split splitlines startswith strip update upper values zfill bit_length".split())
ALLOWED_STATEMENTS = (
    ast.Assign, ast.AugAssign, ast.If, ast.While, ast.For, ast.Return, ast.Break, ast.Continue, ast.Pass, ast.Raise,
    ast.FunctionDef, ast.ClassDef, ast.ImportFrom, ast.Expr)
BANNED_EXPRESSIONS = (
    ast.Set, ast.SetComp, ast.DictComp, ast.GeneratorExp, ast.NamedExpr, ast.Starred, ast.Yield, ast.YieldFrom,
    ast.Await, ast.Div, ast.MatMult, ast.Lambda)
BANNED_WORDS = set(
    "type typing typing_extensions enum Enum IntEnum StrEnum Flag IntFlag Generic Protocol ABC ABCMeta namedtuple "
    "NamedTuple TypedDict TYPE_CHECKING abstractmethod".split())
BANNED_NAMES = set("register mro elements open input version_info with_traceback add_note format format_map".split())
OF_PYTHONS_OWN = set(name for kind in (str, int, list, dict, set, bytes, tuple) for name in dir(kind))
WALKED = ("range", "enumerate", "zip", "reversed")


def walk(path):
    return ast.walk(ast.parse(path.read_text()))


def bound_names(node):
    if isinstance(node, ast.arg):
        return [node.arg]
    if isinstance(node, ast.Name) and isinstance(node.ctx, ast.Store):
        return [node.id]
    return []


def imported(path):
    found = []
    for node in walk(path):
        if isinstance(node, ast.ImportFrom):
            found += [(node.module, alias.name) for alias in node.names]
    return found


def defined(tree):
    names = []
    for node in tree.body:
        if isinstance(node, (ast.FunctionDef, ast.ClassDef)):
            names.append(node.name)
        if isinstance(node, ast.Assign):
            names += [target.id for target in node.targets]
    return names


class Language(unittest.TestCase):
    def test_files(self):
        self.assertIn("ship.py", [path.name for path in FILES])
        for path in PACKAGE.iterdir():
            if path.name != "__pycache__":
                self.assertRegex(path.name, r"^(__init__|[a-z][a-z0-9_]*)\.py$")
                self.assertNotIn(path.stem, dir(builtins))

    def test_signs_words_and_size(self):
        for path in FILES:
            text = path.read_text()
            self.assertRegex(text, r"\A[ -~\n]*\Z", path.name)
            rows = text.splitlines()
            self.assertLessEqual(len(rows), 400)
            self.assertLessEqual(max(len(line) for line in rows), 120, path.name)
            self.assertFalse(BANNED_WORDS & set(re.findall(r"\w+", text)), path.name)
            self.assertNotRegex(text, "dataclass|overload|contextmanager")
            for node in walk(path):
                if isinstance(node, ast.FunctionDef):
                    self.assertLessEqual(node.end_lineno - node.lineno + 1, 40, node.name)
                if isinstance(node, ast.Constant) and isinstance(node.value, str):
                    self.assertNotIn("%", node.value)
                if isinstance(node, ast.Constant):
                    self.assertIsInstance(node.value, (int, str, type(None)))

    def test_imports(self):
        draws = {}
        for path in FILES:
            names = [name for module, name in imported(path)]
            self.assertEqual(len(names), len(set(names)), path.name)
            draws[path.stem] = set()
            for module, name in imported(path):
                package, stem = module.split(".")
                self.assertEqual(package, "cruiseship")
                self.assertIn(name, defined(ast.parse((PACKAGE / (stem + ".py")).read_text())), (path.name, name))
                draws[path.stem].add(stem)
        while draws:
            free = [stem for stem in draws if not draws[stem]]
            self.assertTrue(free, "two files draw from one another")
            draws = {stem: draws[stem] - set(free) for stem in draws if stem not in free}

    def test_the_top_of_each_file(self):
        for path in FILES:
            tree = ast.parse(path.read_text())
            self.assertIsNotNone(ast.get_docstring(tree), path.name)
            names = defined(tree) + [name for module, name in imported(path)]
            self.assertEqual(len(names), len(set(names)), path.name)
            for node in tree.body[1:]:
                self.assertIsInstance(node, (ast.ImportFrom, ast.FunctionDef, ast.ClassDef, ast.Assign))
                if isinstance(node, ast.Assign):
                    ast.literal_eval(node.value)

    def test_statements(self):
        for path in FILES:
            for node in list(walk(path))[2:]:
                if isinstance(node, ast.stmt) and not (isinstance(node, ast.Expr) and node.lineno == 1):
                    self.assertIsInstance(node, ALLOWED_STATEMENTS, (path.name, node.lineno))
                    if isinstance(node, ast.Expr):
                        self.assertIsInstance(node.value, ast.Call, (path.name, node.lineno))
                    if isinstance(node, ast.Assign):
                        self.assertEqual(len(node.targets), 1)
                    if isinstance(node, (ast.For, ast.While)):
                        self.assertEqual(node.orelse, [])

    def test_functions_and_classes(self):
        methods, values = set(), set()
        for path in FILES:
            for node in walk(path):
                if isinstance(node, ast.FunctionDef):
                    self.assertEqual(node.decorator_list, [])
                    self.assertIsNone(node.returns)
                    told = node.args
                    self.assertFalse(told.vararg or told.kwarg or told.kwonlyargs or told.posonlyargs)
                    self.assertFalse([arg for arg in told.args if arg.annotation])
                if isinstance(node, ast.ClassDef):
                    self.assertEqual((node.decorator_list, node.keywords), ([], []))
                    self.assertTrue(all(isinstance(part, ast.FunctionDef) for part in node.body), node.name)
                    methods |= {part.name for part in node.body}
                if isinstance(node, ast.Attribute) and isinstance(node.ctx, ast.Store):
                    self.assertIsInstance(node.value, ast.Name, (path.name, node.lineno))
                    values.add(node.attr)
        self.assertFalse(methods & values)
        self.assertFalse((values | methods - {"__init__"}) & OF_PYTHONS_OWN)

    def test_expressions(self):
        for path in FILES:
            for node in walk(path):
                self.assertNotIsInstance(node, BANNED_EXPRESSIONS, path.name)
                if isinstance(node, ast.ListComp):
                    self.assertEqual(len(node.generators), 1)
                    self.assertLessEqual(len(node.generators[0].ifs), 1)
                if isinstance(node, ast.Compare) and any(isinstance(op, (ast.Is, ast.IsNot)) for op in node.ops):
                    self.assertIsInstance(node.comparators[0], ast.Constant)
                if isinstance(node, ast.Assign) and isinstance(node.value, ast.Call):
                    self.assertNotIn(getattr(node.value.func, "id", ""), WALKED)

    def test_names(self):
        for path in FILES:
            tree = ast.parse(path.read_text())
            taken = set(dir(builtins)) | {name for module, name in imported(path)}
            taken |= {node.name for node in tree.body if isinstance(node, ast.ClassDef)}
            for node in ast.walk(tree):
                for name in bound_names(node):
                    self.assertNotIn(name, taken, path.name)
                    self.assertRegex(name, "^[A-Za-z][A-Za-z0-9_]*$")
                if isinstance(node, ast.Name) and isinstance(node.ctx, ast.Load) and node.id in dir(builtins):
                    self.assertIn(node.id, ALLOWED_NAMES, path.name)
                if isinstance(node, ast.Name):
                    self.assertNotIn(node.id, BANNED_NAMES)
                if isinstance(node, ast.Attribute):
                    self.assertNotIn(node.attr, BANNED_NAMES)
                if isinstance(node, ast.Call) and isinstance(node.func, ast.Attribute):
                    self.assertIn(node.func.attr, ALLOWED_METHODS | {"twin"}, path.name)
