"""The form of the package's files: the small part of Python that it keeps to."""

import ast
import builtins
import pathlib
import re
import unittest

FOLDER = pathlib.Path(__file__).resolve().parent.parent / "brokenlinesdesk"

STATEMENTS = (
    ast.Assign, ast.AugAssign, ast.If, ast.While, ast.For, ast.Return, ast.Break, ast.Continue, ast.Pass, ast.Raise,
    ast.Try, ast.Expr, ast.FunctionDef, ast.ClassDef, ast.ImportFrom,
)
EXPRESSIONS = (
    ast.Constant, ast.List, ast.Tuple, ast.Dict, ast.BinOp, ast.UnaryOp, ast.BoolOp, ast.Compare, ast.IfExp, ast.Call,
    ast.Attribute, ast.Subscript, ast.Slice, ast.ListComp, ast.JoinedStr, ast.FormattedValue, ast.Name, ast.Lambda,
)
OWN_NAMES = (
    "len range enumerate zip min max sum abs sorted reversed int str bool list tuple dict set frozenset isinstance ord "
    "repr any all divmod Exception ValueError TypeError KeyError IndexError LookupError ZeroDivisionError "
    "ArithmeticError OverflowError RuntimeError NotImplementedError AttributeError StopIteration"
).split()
METHODS = (
    "append clear copy count endswith extend find get index insert isalnum isalpha isdigit islower isspace isupper items "
    "join keys ljust lower lstrip partition pop remove replace reverse rfind rjust rpartition rsplit rstrip setdefault "
    "split splitlines startswith strip update upper values zfill bit_length"
).split()
NOT_NAMES = "register mro elements open input version_info with_traceback add_note format format_map args".split()
NOT_WORDS = (
    "type typing typing_extensions enum Enum IntEnum StrEnum Flag IntFlag Generic Protocol ABC ABCMeta namedtuple "
    "NamedTuple TypedDict TYPE_CHECKING abstractmethod"
).split()
BARE_WALKS = ("zip", "enumerate", "reversed", "range")


def files():
    return sorted(FOLDER.glob("*.py"))


def trees():
    return [(path, ast.parse(path.read_text())) for path in files()]


def functions(tree):
    return [node for node in ast.walk(tree) if isinstance(node, ast.FunctionDef)]


def imported(tree):
    return [alias.name for node in tree.body if isinstance(node, ast.ImportFrom) for alias in node.names]


def is_plain(node, known):
    if isinstance(node, ast.UnaryOp) and isinstance(node.op, ast.USub):
        node = node.operand
    if isinstance(node, (ast.Tuple, ast.List)):
        return all(is_plain(part, known) for part in node.elts)
    if isinstance(node, ast.Name):
        return node.id in known
    return isinstance(node, ast.Constant) and type(node.value) in (int, str, bool, type(None))


class Files(unittest.TestCase):
    def test_nothing_else_lies_in_the_folder(self):
        for path in FOLDER.iterdir():
            if path.name != "__pycache__":
                self.assertRegex(path.name, r"^[a-z0-9_]+\.py$")
        self.assertTrue((FOLDER / "__init__.py").exists())

    def test_names_of_files(self):
        for path in files():
            self.assertNotIn(path.stem, dir(builtins))
            self.assertNotIn(path.stem, ["test", "tests", "testing", "site", "conftest"] + NOT_WORDS)
            self.assertFalse(path.stem.startswith("test_"))

    def test_signs_and_size(self):
        for path in files():
            text = path.read_text()
            self.assertRegex(text, r"\A[ -~\n]*\Z")
            lines = text.split("\n")
            self.assertLessEqual(len(lines), 400)
            for line in lines:
                self.assertLessEqual(len(line), 120, (path.name, line))
                self.assertEqual(line, line.rstrip())

    def test_words_that_stand_nowhere(self):
        for path in files():
            text = path.read_text()
            for word in NOT_WORDS:
                self.assertIsNone(re.search(rf"\b{word}\b", text), (path.name, word))
            for part in ("dataclass", "overload", "contextmanager"):
                self.assertNotIn(part, text)

    def test_functions_are_short(self):
        for path, tree in trees():
            for function in functions(tree):
                self.assertLessEqual(function.end_lineno - function.lineno + 1, 40, (path.name, function.name))


class Tops(unittest.TestCase):
    def test_what_stands_at_the_top(self):
        for path, tree in trees():
            bound = []
            defs = []
            for place, node in enumerate(tree.body):
                if place == 0 and isinstance(node, ast.Expr):
                    self.assertIsInstance(node.value.value, str)
                elif isinstance(node, ast.ImportFrom):
                    bound += [alias.name for alias in node.names]
                elif isinstance(node, (ast.FunctionDef, ast.ClassDef)):
                    bound.append(node.name)
                    if isinstance(node, ast.FunctionDef):
                        defs.append(node.name)
                else:
                    self.assertIsInstance(node, ast.Assign, (path.name, node.lineno))
                    self.assertEqual(len(node.targets), 1)
                    self.assertTrue(is_plain(node.value, defs), (path.name, node.lineno))
                    bound.append(node.targets[0].id)
            self.assertEqual(len(bound), len(set(bound)), path.name)

    def test_imports(self):
        modules = {f"brokenlinesdesk.{path.stem}": tree for path, tree in trees()}
        draws = {}
        for name, tree in modules.items():
            draws[name] = set()
            for node in ast.walk(tree):
                if isinstance(node, (ast.Import, ast.ImportFrom)):
                    self.assertIn(node, tree.body)
                    self.assertIsInstance(node, ast.ImportFrom)
                    self.assertEqual(node.level, 0)
                    self.assertIn(node.module, modules)
                    draws[name].add(node.module)
                    self.assertTrue(all(alias.asname is None and alias.name != "*" for alias in node.names))
                    own = [part.name for part in modules[node.module].body if hasattr(part, "name")]
                    own += [part.targets[0].id for part in modules[node.module].body if isinstance(part, ast.Assign)]
                    for alias in node.names:
                        self.assertIn(alias.name, own)
        while draws:
            free = [name for name in draws if not draws[name] & set(draws)]
            self.assertTrue(free, f"these draw from one another: {sorted(draws)}")
            for name in free:
                draws.pop(name)

    def test_every_import_is_used(self):
        for path, tree in trees():
            used = [node.id for node in ast.walk(tree) if isinstance(node, ast.Name)]
            for name in imported(tree):
                self.assertIn(name, used, path.name)


class Insides(unittest.TestCase):
    def test_statements_and_expressions(self):
        for path, tree in trees():
            for node in ast.walk(tree):
                place = (path.name, getattr(node, "lineno", 0))
                if isinstance(node, ast.stmt):
                    self.assertIsInstance(node, STATEMENTS, place)
                if isinstance(node, ast.expr):
                    self.assertIsInstance(node, EXPRESSIONS, place)
                if isinstance(node, ast.Expr) and node is not tree.body[0]:
                    self.assertIsInstance(node.value, ast.Call, place)
                if isinstance(node, ast.Constant):
                    self.assertIn(type(node.value), (int, str, bool, type(None)), place)
                if isinstance(node, ast.BinOp):
                    self.assertNotIsInstance(node.op, (ast.Div, ast.MatMult, ast.Pow), place)
                if isinstance(node, ast.Compare) and any(isinstance(op, (ast.Is, ast.IsNot)) for op in node.ops):
                    self.assertTrue(all(isinstance(part, ast.Constant) for part in node.comparators), place)
                if isinstance(node, (ast.For, ast.While)):
                    self.assertEqual(node.orelse, [], place)
                if isinstance(node, ast.Assign):
                    self.assertEqual(len(node.targets), 1, place)
                    self.assertIsInstance(node.targets[0], (ast.Name, ast.Attribute, ast.Subscript), place)
                if isinstance(node, ast.ListComp):
                    self.assertEqual(len(node.generators), 1, place)
                    self.assertLessEqual(len(node.generators[0].ifs), 1, place)

    def test_functions_and_classes(self):
        for path, tree in trees():
            for node in ast.walk(tree):
                if isinstance(node, ast.FunctionDef):
                    given = node.args
                    self.assertFalse(given.vararg or given.kwarg or given.kwonlyargs or given.posonlyargs)
                    self.assertEqual(node.decorator_list, [])
                    self.assertIsNone(node.returns)
                    self.assertTrue(all(part.annotation is None for part in given.args))
                if isinstance(node, ast.ClassDef):
                    self.assertIn(node, tree.body)
                    self.assertEqual(node.decorator_list, [])
                    self.assertLessEqual(len(node.bases), 1)
                    self.assertEqual(node.keywords, [])
                    for part in node.body:
                        self.assertIsInstance(part, (ast.FunctionDef, ast.Pass))

    def test_names(self):
        for path, tree in trees():
            tops = imported(tree) + [part.name for part in tree.body if isinstance(part, ast.ClassDef)]
            known = tops + [part.name for part in tree.body if isinstance(part, ast.FunctionDef)]
            known += [part.targets[0].id for part in tree.body if isinstance(part, ast.Assign)]
            for node in ast.walk(tree):
                if isinstance(node, ast.Name):
                    self.assertFalse(node.id.startswith("_"))
                    self.assertNotIn(node.id, NOT_NAMES)
                    if isinstance(node.ctx, ast.Load) and node.id in dir(builtins):
                        self.assertIn(node.id, OWN_NAMES, path.name)
                    if isinstance(node.ctx, ast.Store):
                        self.assertNotIn(node.id, dir(builtins), path.name)
                        self.assertNotIn(node.id, tops, path.name)
                if isinstance(node, ast.arg):
                    self.assertNotIn(node.arg, dir(builtins) + tops + NOT_NAMES, path.name)
            for function in functions(tree):
                local = [part.arg for part in function.args.args]
                local += [n.id for n in ast.walk(function) if isinstance(n, ast.Name) and isinstance(n.ctx, ast.Store)]
                for node in ast.walk(function):
                    if isinstance(node, ast.Name) and isinstance(node.ctx, ast.Load):
                        self.assertIn(node.id, local + known + OWN_NAMES, (path.name, function.name))

    def test_methods_and_values_of_objects(self):
        methods = []
        values = []
        for path, tree in trees():
            for node in tree.body:
                if isinstance(node, ast.ClassDef):
                    methods += [part.name for part in node.body if isinstance(part, ast.FunctionDef)]
            for node in ast.walk(tree):
                if isinstance(node, ast.Attribute) and isinstance(node.ctx, ast.Store):
                    values.append(node.attr)
        free = [name for kind in (str, int, list, dict, set, bytes) for name in dir(kind)]
        for name in methods:
            self.assertNotIn(name, values)
            self.assertNotIn(name, NOT_NAMES)
            self.assertTrue(name == "__init__" or name not in free, name)
        for name in values:
            self.assertNotIn(name, free + NOT_NAMES)
        for path, tree in trees():
            for node in ast.walk(tree):
                if isinstance(node, ast.Call) and isinstance(node.func, ast.Attribute):
                    self.assertIn(node.func.attr, methods + METHODS, path.name)

    def test_walks_are_walked_on_the_spot(self):
        for path, tree in trees():
            on_the_spot = []
            for node in ast.walk(tree):
                if isinstance(node, (ast.For, ast.comprehension)):
                    on_the_spot.append(node.iter)
                if isinstance(node, ast.Call) and isinstance(node.func, ast.Name) and node.args:
                    if node.func.id in "list tuple dict sorted sum any all enumerate zip min max".split():
                        on_the_spot.append(node.args[0])
            for node in ast.walk(tree):
                if isinstance(node, ast.Call):
                    name = node.func.id if isinstance(node.func, ast.Name) else node.func.attr
                    if name in BARE_WALKS + ("items", "keys", "values"):
                        self.assertIn(node, on_the_spot, (path.name, node.lineno))


if __name__ == "__main__":
    unittest.main()
