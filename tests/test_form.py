"""The package's own files keep to the plain part of Python they are to be written in."""

import ast
import builtins
import pathlib
import re
import unittest

PACKAGE = pathlib.Path(__file__).resolve().parent.parent / "complexrows"

ALLOWED_STATEMENTS = (
    ast.Assign, ast.AugAssign, ast.If, ast.While, ast.For, ast.Return, ast.Break, ast.Continue,
    ast.Pass, ast.Raise, ast.Try, ast.Expr, ast.FunctionDef, ast.ClassDef, ast.ImportFrom,
)

FORBIDDEN_EXPRESSIONS = (
    ast.SetComp, ast.DictComp, ast.GeneratorExp, ast.NamedExpr, ast.Starred, ast.Div,
    ast.Await, ast.Yield, ast.YieldFrom,
)

FORBIDDEN_WORDS = re.compile(
    r"\b(type|typing|typing_extensions|enum|Enum|IntEnum|StrEnum|Flag|IntFlag|Generic|Protocol|ABC|ABCMeta"
    r"|namedtuple|NamedTuple|TypedDict|TYPE_CHECKING|abstractmethod)\b|dataclass|overload|contextmanager"
)

BUILTINS = set(
    "len range enumerate zip min max sum abs sorted reversed int str bool list tuple dict set frozenset"
    " isinstance ord repr any all divmod Exception ValueError TypeError KeyError IndexError LookupError"
    " ZeroDivisionError ArithmeticError OverflowError RuntimeError NotImplementedError AttributeError"
    " StopIteration".split()
)


METHODS = set(
    "append clear copy count endswith extend find get index insert isalnum isalpha isdigit islower isspace isupper"
    " items join keys ljust lower lstrip partition pop remove replace reverse rfind rjust rpartition rsplit rstrip"
    " setdefault split splitlines startswith strip update upper values zfill bit_length".split()
)


def files():
    return sorted(path for path in PACKAGE.rglob("*") if path.is_file() and "__pycache__" not in path.parts)


def bound_names(tree):
    names = set()
    for node in ast.walk(tree):
        if isinstance(node, (ast.FunctionDef, ast.ClassDef)):
            names.add(node.name)
        elif isinstance(node, ast.arg):
            names.add(node.arg)
        elif isinstance(node, ast.alias):
            names.add(node.name)
        elif isinstance(node, ast.Name) and isinstance(node.ctx, ast.Store):
            names.add(node.id)
    return names


class FormTest(unittest.TestCase):
    def test_files(self):
        self.assertIn(PACKAGE / "__init__.py", files())
        for path in files():
            self.assertRegex(path.name, r"^[a-z_][a-z0-9_]*\.py$")

    def test_signs_and_sizes(self):
        for path in files():
            lines = path.read_text(encoding="utf-8").split("\n")
            self.assertLessEqual(len(lines), 400, path)
            for line in lines:
                self.assertRegex(line, r"^[ -~]{0,120}$", path)
                self.assertIsNone(FORBIDDEN_WORDS.search(line), (path, line))

    def test_statements_and_expressions(self):
        for path in files():
            for node in ast.walk(ast.parse(path.read_text(encoding="utf-8"))):
                where = (path.name, getattr(node, "lineno", None), ast.dump(node)[:80])
                if isinstance(node, ast.stmt):
                    self.assertIsInstance(node, ALLOWED_STATEMENTS, where)
                self.assertNotIsInstance(node, FORBIDDEN_EXPRESSIONS, where)
                if isinstance(node, ast.Constant):
                    self.assertIn(type(node.value), (int, str, bool, type(None)), where)
                if isinstance(node, ast.FunctionDef):
                    self.assertLessEqual(node.end_lineno - node.lineno + 1, 40, where)
                    self.assertEqual(node.decorator_list, [], where)
                if isinstance(node, ast.ImportFrom):
                    self.assertEqual(node.level, 0, where)
                    self.assertTrue(node.module.startswith("complexrows."), where)

    def test_names(self):
        for path in files():
            tree = ast.parse(path.read_text(encoding="utf-8"))
            bound = bound_names(tree)
            self.assertEqual([name for name in bound if name.startswith("_")], [], path)
            read = {node.id for node in ast.walk(tree) if isinstance(node, ast.Name)}
            self.assertLessEqual(read - bound, BUILTINS, path)

    def test_no_name_of_python_has_another_meaning(self):
        for path in files():
            bound = bound_names(ast.parse(path.read_text(encoding="utf-8")))
            self.assertEqual(sorted(bound & set(dir(builtins))), [], path)

    def test_methods(self):
        for path in files():
            for node in ast.walk(ast.parse(path.read_text(encoding="utf-8"))):
                if isinstance(node, ast.Attribute):
                    self.assertIn(node.attr, METHODS, (path.name, node.lineno))

    def test_names_of_the_top_are_bound_once_and_not_as_locals(self):
        for path in files():
            tree = ast.parse(path.read_text(encoding="utf-8"))
            tops = []
            for node in tree.body:
                if isinstance(node, ast.ImportFrom):
                    tops += [alias.name for alias in node.names]
                elif isinstance(node, (ast.FunctionDef, ast.ClassDef)):
                    tops.append(node.name)
                elif isinstance(node, ast.Assign):
                    tops += [target.id for target in node.targets]
            self.assertEqual(sorted(tops), sorted(set(tops)), path)
            within = set()
            for node in ast.walk(tree):
                if isinstance(node, ast.FunctionDef):
                    within |= bound_names(node) - {node.name}
            self.assertEqual(sorted(within & set(tops)), [], path)

    def test_names_come_from_the_files_that_define_them(self):
        defined = {}
        for path in files():
            tree = ast.parse(path.read_text(encoding="utf-8"))
            names = [node.name for node in tree.body if isinstance(node, (ast.FunctionDef, ast.ClassDef))]
            names += [target.id for node in tree.body if isinstance(node, ast.Assign) for target in node.targets]
            defined["complexrows." + path.stem] = names
        for path in files():
            for node in ast.walk(ast.parse(path.read_text(encoding="utf-8"))):
                if isinstance(node, ast.ImportFrom):
                    for alias in node.names:
                        self.assertIn(alias.name, defined[node.module], path)
                        self.assertIsNone(alias.asname, path)
