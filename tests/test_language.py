"""The rules of the language that are easy to break unseen: files, imports, sizes, signs, names."""

import ast
import builtins
import pathlib
import re
import unittest

PACKAGE = pathlib.Path(__file__).resolve().parent.parent / "threesticks"

ALLOWED_BUILTINS = set(
    "len range enumerate zip min max sum abs sorted reversed int str bool list tuple dict set frozenset "
    "isinstance ord repr any all divmod Exception ValueError TypeError KeyError IndexError LookupError "
    "ZeroDivisionError ArithmeticError OverflowError RuntimeError NotImplementedError AttributeError "
    "StopIteration".split()
)

WORDS_NOT_USED = re.compile(
    r"\b(type|typing|typing_extensions|enum|Enum|IntEnum|StrEnum|Flag|IntFlag|Generic|Protocol|ABC|ABCMeta"
    r"|namedtuple|NamedTuple|TypedDict|TYPE_CHECKING|abstractmethod)\b|dataclass|overload|contextmanager"
)

METHODS_OF_PYTHONS_VALUES = set(
    "append clear copy count endswith extend find get index insert isalnum isalpha isdigit islower isspace isupper "
    "items join keys ljust lower lstrip partition pop remove replace reverse rfind rjust rpartition rsplit rstrip "
    "setdefault split splitlines startswith strip update upper values zfill bit_length".split()
)

STATEMENTS_NOT_USED = (
    ast.With, ast.Match, ast.Delete, ast.Global, ast.Nonlocal, ast.Assert, ast.Yield, ast.YieldFrom, ast.Import,
    ast.AsyncFunctionDef, ast.Await, ast.SetComp, ast.DictComp, ast.GeneratorExp, ast.NamedExpr, ast.Starred, ast.Div,
)


def files():
    return sorted(path for path in PACKAGE.rglob("*") if path.is_file() and "__pycache__" not in path.parts)


def nodes(*kinds):
    """All nodes of these kinds in the package's files."""
    found = [node for path in files() for node in ast.walk(ast.parse(path.read_text()))]
    return [node for node in found if isinstance(node, kinds)]


class Language(unittest.TestCase):
    def test_files_are_plain_modules(self):
        names = [path.name for path in files()]
        self.assertIn("heap.py", names)
        for name in names:
            self.assertRegex(name, r"^[a-z0-9_]+\.py$")
            self.assertFalse(name.startswith("test"), name)

    def test_sizes_and_signs(self):
        for path in files():
            text = path.read_bytes().decode("utf-8")
            self.assertRegex(text, r"\A[ -~\n]*\Z", path)
            lines = text.split("\n")
            self.assertLessEqual(len(lines), 400, path)
            self.assertLessEqual(max(len(line) for line in lines), 120, path)
            self.assertIsNone(WORDS_NOT_USED.search(text), path)

    def test_functions_are_short(self):
        for path in files():
            for node in ast.walk(ast.parse(path.read_text())):
                if isinstance(node, ast.FunctionDef):
                    self.assertLessEqual(node.end_lineno - node.lineno + 1, 40, node.name)

    def test_only_the_packages_own_is_imported(self):
        for path in files():
            for node in ast.walk(ast.parse(path.read_text())):
                if isinstance(node, ast.ImportFrom):
                    self.assertEqual(node.level, 0, path)
                    self.assertRegex(node.module, r"^threesticks\.[a-z0-9_]+$", path)

    def test_statements(self):
        for path in files():
            for node in ast.walk(ast.parse(path.read_text())):
                self.assertNotIsInstance(node, STATEMENTS_NOT_USED, path)

    def test_pythons_own_names(self):
        for path in files():
            for node in ast.walk(ast.parse(path.read_text())):
                if isinstance(node, ast.Name) and hasattr(builtins, node.id):
                    self.assertIn(node.id, ALLOWED_BUILTINS, path)
                    self.assertIsInstance(node.ctx, ast.Load, path)

    def test_parameters_are_not_called_like_pythons_own(self):
        for node in nodes(ast.arg):
            self.assertFalse(hasattr(builtins, node.arg), node.arg)

    def test_names_are_plain(self):
        names = [node.id for node in nodes(ast.Name)] + [node.arg for node in nodes(ast.arg)]
        names += [node.name for node in nodes(ast.FunctionDef, ast.ClassDef) if node.name != "__init__"]
        names += [node.attr for node in nodes(ast.Attribute)]
        for name in names:
            self.assertRegex(name, r"^[A-Za-z][A-Za-z0-9_]*$")

    def test_methods_are_own_or_listed(self):
        own = {node.name for node in nodes(ast.FunctionDef)}
        for node in nodes(ast.Call):
            if isinstance(node.func, ast.Attribute):
                self.assertIn(node.func.attr, own | METHODS_OF_PYTHONS_VALUES)

    def test_functions_have_plain_parameters_and_no_decorator(self):
        for node in nodes(ast.FunctionDef):
            given = node.args
            self.assertEqual((node.decorator_list, given.vararg, given.kwarg, given.kwonlyargs), ([], None, None, []))

    def test_one_target_and_no_else_behind_a_loop(self):
        for node in nodes(ast.Assign):
            self.assertEqual(len(node.targets), 1)
            self.assertNotIsInstance(node.targets[0], (ast.Tuple, ast.List))
        for node in nodes(ast.For, ast.While):
            self.assertEqual(node.orelse, [])

    def test_comprehensions_are_simple(self):
        for node in nodes(ast.ListComp):
            self.assertEqual(len(node.generators), 1)
            self.assertLessEqual(len(node.generators[0].ifs), 1)

    def test_each_name_once_at_a_files_top(self):
        for path in files():
            bound = []
            for node in ast.parse(path.read_text()).body:
                if isinstance(node, ast.ImportFrom):
                    bound += [alias.name for alias in node.names]
                elif isinstance(node, ast.Assign):
                    bound.append(node.targets[0].id)
                elif isinstance(node, (ast.FunctionDef, ast.ClassDef)):
                    bound.append(node.name)
                else:
                    self.assertIsInstance(node, ast.Expr, path)
            self.assertEqual(len(bound), len(set(bound)), path)


if __name__ == "__main__":
    unittest.main()
