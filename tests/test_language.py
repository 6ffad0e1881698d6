"""What can be told of LANGUAGE.md by looking at the package's files."""

import ast
import builtins
import pathlib
import re
import unittest

PACKAGE = pathlib.Path(__file__).resolve().parent.parent / "gluedviews"

STATEMENTS = (
    ast.Assign, ast.AugAssign, ast.If, ast.While, ast.For, ast.Return, ast.Break, ast.Continue, ast.Pass, ast.Raise,
    ast.Try, ast.Expr, ast.FunctionDef, ast.ClassDef, ast.ImportFrom,
)
EXPRESSIONS = (
    ast.BinOp, ast.UnaryOp, ast.BoolOp, ast.Compare, ast.IfExp, ast.Call, ast.Attribute, ast.Subscript, ast.Slice,
    ast.Name, ast.Constant, ast.List, ast.Tuple, ast.Dict, ast.ListComp, ast.Lambda,
)
BUILT_IN = (
    "len range enumerate zip min max sum abs sorted reversed int str bool list tuple dict set frozenset isinstance "
    "ord repr any all divmod ValueError KeyError IndexError LookupError ZeroDivisionError"
).split()
METHODS = (
    "append clear copy count endswith extend find get index insert isalnum isalpha isdigit islower isspace isupper "
    "items join keys ljust lower lstrip partition pop remove replace reverse rfind rjust rpartition rsplit rstrip "
    "setdefault split splitlines startswith strip update upper values zfill bit_length"
).split()
WORDS = (
    "type typing typing_extensions enum Enum IntEnum StrEnum Flag IntFlag Generic Protocol ABC ABCMeta namedtuple "
    "NamedTuple TypedDict TYPE_CHECKING abstractmethod"
).split()


def files():
    return sorted(PACKAGE.glob("*.py"))


def nodes(file):
    return list(ast.walk(ast.parse(file.read_text())))


def defined(file):
    names = []
    for row in ast.parse(file.read_text()).body:
        if isinstance(row, (ast.FunctionDef, ast.ClassDef)):
            names.append(row.name)
        if isinstance(row, ast.Assign):
            names.append(row.targets[0].id)
    return names


def drawn_from(file):
    return [node.module.removeprefix("gluedviews.") for node in nodes(file) if isinstance(node, ast.ImportFrom)]


class Language(unittest.TestCase):
    def test_files(self):
        for path in PACKAGE.iterdir():
            if path.name not in ("__pycache__", "__init__.py"):
                self.assertRegex(path.name, r"^[a-z][a-z0-9_]*\.py$")
                self.assertFalse(hasattr(builtins, path.stem))

    def test_signs_and_sizes(self):
        for file in files():
            text = file.read_text()
            self.assertRegex(text, r"\A[ -~\n]*\Z")
            self.assertLessEqual(len(text.splitlines()), 400)
            self.assertLessEqual(max(map(len, text.splitlines())), 120)
            for node in nodes(file):
                if isinstance(node, ast.FunctionDef):
                    self.assertLessEqual(node.end_lineno - node.lineno + 1, 40)

    def test_words_that_stand_nowhere(self):
        for file in files():
            text = file.read_text()
            self.assertEqual([word for word in WORDS if re.search(rf"\b{word}\b", text)], [])
            self.assertNotRegex(text, "dataclass|overload|contextmanager")

    def test_imports(self):
        for file in files():
            for node in nodes(file):
                self.assertNotIsInstance(node, ast.Import)
                if isinstance(node, ast.ImportFrom):
                    self.assertEqual(node.level, 0)
                    self.assertTrue(node.module.startswith("gluedviews."))
                    source = PACKAGE / (node.module.removeprefix("gluedviews.") + ".py")
                    for alias in node.names:
                        self.assertIn(alias.name, defined(source))
        self.assertEqual(drawn_from(PACKAGE / "__init__.py"), [])

    def test_no_two_files_draw_from_one_another(self):
        waiting = {file.stem: drawn_from(file) for file in files()}
        while waiting:
            free = [name for name in waiting if not set(waiting[name]) & set(waiting)]
            self.assertTrue(free, waiting)
            for name in free:
                waiting.pop(name)

    def test_statements_and_expressions(self):
        for file in files():
            tree = ast.parse(file.read_text())
            for node in ast.walk(tree):
                where = f"{file.name}:{getattr(node, 'lineno', 0)}"
                if isinstance(node, ast.stmt):
                    self.assertIsInstance(node, STATEMENTS, where)
                if isinstance(node, ast.expr):
                    self.assertIsInstance(node, EXPRESSIONS, where)
                if isinstance(node, ast.Expr) and node is not tree.body[0]:
                    self.assertIsInstance(node.value, ast.Call, where)
                if isinstance(node, ast.Assign):
                    self.assertEqual(len(node.targets), 1, where)
                    self.assertNotIsInstance(node.targets[0], ast.Tuple, where)
                if isinstance(node, (ast.For, ast.While)):
                    self.assertEqual(node.orelse, [], where)
                if isinstance(node, (ast.FunctionDef, ast.ClassDef)):
                    self.assertEqual(node.decorator_list, [], where)
                self.assertNotIsInstance(node, (ast.Div, ast.Pow), where)
                if isinstance(node, ast.Compare) and isinstance(node.ops[0], (ast.Is, ast.IsNot)):
                    self.assertIsInstance(node.comparators[0], ast.Constant, where)

    def test_names(self):
        for file in files():
            for node in nodes(file):
                names = [getattr(node, field, None) for field in ("id", "arg", "attr", "name")]
                for name in names:
                    if isinstance(name, str) and name != "__init__":
                        self.assertRegex(name, r"^[A-Za-z][A-Za-z0-9_]*$")
                if isinstance(node, ast.Name) and hasattr(builtins, node.id):
                    self.assertIn(node.id, BUILT_IN)
                    self.assertIsInstance(node.ctx, ast.Load)

    def test_no_local_is_called_like_an_import_a_class_or_a_name_of_python_s_own(self):
        for file in files():
            taken = set(dir(builtins))
            for node in nodes(file):
                if isinstance(node, ast.ImportFrom):
                    taken.update(alias.name for alias in node.names)
                if isinstance(node, ast.ClassDef):
                    taken.add(node.name)
            for node in nodes(file):
                if isinstance(node, ast.arg):
                    self.assertNotIn(node.arg, taken, file.name)
                if isinstance(node, ast.Name) and isinstance(node.ctx, ast.Store):
                    self.assertNotIn(node.id, taken, file.name)

    def test_no_list_or_dict_at_a_file_s_top(self):
        for file in files():
            for row in ast.parse(file.read_text()).body:
                if isinstance(row, ast.Assign):
                    self.assertIsInstance(row.value, (ast.Constant, ast.UnaryOp, ast.Tuple), file.name)

    def test_each_import_is_used(self):
        for file in files():
            used = {node.id for node in nodes(file) if isinstance(node, ast.Name)}
            for node in nodes(file):
                if isinstance(node, ast.ImportFrom):
                    self.assertLessEqual({alias.name for alias in node.names}, used, file.name)

    def test_methods(self):
        own = {node.name for file in files() for node in nodes(file) if isinstance(node, ast.FunctionDef)}
        for file in files():
            for node in nodes(file):
                if isinstance(node, ast.Call) and isinstance(node.func, ast.Attribute):
                    self.assertIn(node.func.attr, METHODS + sorted(own))
