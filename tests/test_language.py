"""The form of the package's files: the rules of LANGUAGE.md that can be read off the files one by one."""

import ast
import builtins
import pathlib
import re
import unittest

import strandforms

PACKAGE = pathlib.Path(strandforms.__file__).resolve().parent

OWN_NAMES = set(
    "len range enumerate zip min max sum abs sorted reversed int str bool list tuple dict set frozenset isinstance "
    "ord repr any all divmod Exception ValueError TypeError KeyError IndexError LookupError ZeroDivisionError "
    "ArithmeticError OverflowError RuntimeError NotImplementedError AttributeError StopIteration".split())

METHODS = set(
    "append clear copy count endswith extend find get index insert isalnum isalpha isdigit islower isspace isupper "
    "items join keys ljust lower lstrip partition pop remove replace reverse rfind rjust rpartition rsplit rstrip "
    "setdefault split splitlines startswith strip update upper values zfill bit_length".split())

WORDS_NOWHERE = re.compile(
    r"\b(type|typing|typing_extensions|enum|Enum|IntEnum|StrEnum|Flag|IntFlag|Generic|Protocol|ABC|ABCMeta|"
    r"namedtuple|NamedTuple|TypedDict|TYPE_CHECKING|abstractmethod)\b|dataclass|overload|contextmanager")

NAMES_NOT_USED = set(
    "register mro elements open input version_info with_traceback add_note attrgetter breakpoint builtins compile "
    "copyright credits delattr dir eval exec exit gc getattr globals hasattr help id importlib license locals "
    "methodcaller os quit setattr super vars sys format format_map".split())

NOT_WRITTEN = (
    ast.With, ast.Delete, ast.Global, ast.Nonlocal, ast.Assert, ast.Yield, ast.YieldFrom, ast.AsyncFunctionDef,
    ast.AsyncFor, ast.AsyncWith, ast.Await, ast.Match, ast.Div, ast.MatMult, ast.SetComp, ast.DictComp,
    ast.GeneratorExp, ast.NamedExpr, ast.Starred, ast.AnnAssign, ast.Import)

AT_THE_TOP = (ast.ImportFrom, ast.FunctionDef, ast.ClassDef, ast.Assign)


def is_pythons_own(name):
    return hasattr(builtins, name) and not name.startswith("__")


def package_files():
    return sorted(path for path in PACKAGE.rglob("*") if "__pycache__" not in path.parts)


def parsed():
    return [(path, ast.parse(path.read_text(encoding="utf-8"))) for path in package_files()]


def nodes(kind):
    return [(path, node) for path, tree in parsed() for node in ast.walk(tree) if isinstance(node, kind)]


class Files(unittest.TestCase):
    def test_only_python_files_with_plain_names(self):
        self.assertIn(PACKAGE / "__init__.py", package_files())
        self.assertIn(PACKAGE / "crossings.py", package_files())
        for path in package_files():
            self.assertTrue(path.is_file(), path)
            self.assertRegex(path.name, r"^(__init__|[a-z][a-z0-9_]*)\.py$")
            self.assertNotRegex(path.name, r"^(test|site|conftest)")
            self.assertFalse(is_pythons_own(path.stem), path)

    def test_signs_and_sizes(self):
        for path in package_files():
            text = path.read_bytes().decode("ascii")
            self.assertRegex(text, r"\A[ -~\n]*\Z", path)
            lines = text.split("\n")
            self.assertLessEqual(len(lines), 400, path)
            for line in lines:
                self.assertLessEqual(len(line), 120, path)

    def test_words_that_stand_nowhere(self):
        for path in package_files():
            self.assertIsNone(WORDS_NOWHERE.search(path.read_text(encoding="utf-8")), path)


class Statements(unittest.TestCase):
    def test_the_top_of_a_module(self):
        for path, tree in parsed():
            self.assertIsNotNone(ast.get_docstring(tree), path)
            for statement in tree.body[1:]:
                self.assertIsInstance(statement, AT_THE_TOP, f"{path}:{statement.lineno}")

    def test_a_name_is_bound_once_at_the_top(self):
        for path, tree in parsed():
            bound = []
            for statement in tree.body:
                if isinstance(statement, (ast.FunctionDef, ast.ClassDef)):
                    bound.append(statement.name)
                elif isinstance(statement, ast.Assign):
                    bound.extend(target.id for target in statement.targets)
            self.assertEqual(len(bound), len(set(bound)), path)

    def test_only_the_package_itself_is_drawn_from(self):
        for path, node in nodes(ast.ImportFrom):
            self.assertEqual(node.level, 0, path)
            self.assertRegex(node.module, r"^strandforms\.")
            self.assertNotIn("*", [alias.name for alias in node.names])

    def test_nothing_that_the_rules_leave_out(self):
        for path, node in nodes(NOT_WRITTEN):
            self.fail(f"{path}: {type(node).__name__}")

    def test_assignments_have_one_plain_target(self):
        for path, node in nodes(ast.Assign):
            self.assertEqual(len(node.targets), 1, f"{path}:{node.lineno}")
            self.assertNotIsInstance(node.targets[0], (ast.Tuple, ast.List), f"{path}:{node.lineno}")

    def test_what_stands_by_itself_is_a_call(self):
        for path, tree in parsed():
            for node in ast.walk(tree):
                if isinstance(node, ast.Expr) and node is not tree.body[0]:
                    self.assertIsInstance(node.value, ast.Call, f"{path}:{node.lineno}")

    def test_a_class_holds_methods_alone(self):
        for path, node in nodes(ast.ClassDef):
            self.assertEqual(node.decorator_list, [], path)
            self.assertLessEqual(len(node.bases), 1, path)
            for statement in node.body:
                self.assertIsInstance(statement, ast.FunctionDef, f"{path}:{statement.lineno}")

    def test_loops_have_no_else(self):
        for path, node in nodes((ast.For, ast.While)):
            self.assertEqual(node.orelse, [], f"{path}:{node.lineno}")

    def test_functions(self):
        for path, node in nodes(ast.FunctionDef):
            where = f"{path}:{node.lineno}"
            self.assertLessEqual(node.end_lineno - node.lineno + 1, 40, where)
            self.assertEqual(node.decorator_list, [], where)
            plain = node.args
            self.assertIsNone(plain.vararg, where)
            self.assertIsNone(plain.kwarg, where)
            self.assertEqual(plain.kwonlyargs + plain.posonlyargs, [], where)


class Names(unittest.TestCase):
    def test_names_of_pythons_own(self):
        for path, node in nodes(ast.Name):
            where = f"{path}:{node.lineno}: {node.id}"
            self.assertNotIn(node.id, NAMES_NOT_USED, where)
            self.assertFalse(node.id.startswith("_"), where)
            if is_pythons_own(node.id):
                self.assertIn(node.id, OWN_NAMES, where)
                self.assertIsInstance(node.ctx, ast.Load, where)

    def test_names_of_functions_and_parameters(self):
        named = [(path, node.name) for path, node in nodes((ast.FunctionDef, ast.ClassDef))]
        named += [(path, node.arg) for path, node in nodes(ast.arg)]
        for path, name in named:
            self.assertFalse(is_pythons_own(name), f"{path}: {name}")
            self.assertNotIn(name, NAMES_NOT_USED, path)

    def test_methods(self):
        own = {node.name for path, node in nodes(ast.FunctionDef)}
        for path, node in nodes(ast.Call):
            if isinstance(node.func, ast.Attribute):
                self.assertIn(node.func.attr, METHODS | own, f"{path}:{node.lineno}")

    def test_is_stands_beside_none_true_and_false_alone(self):
        for path, node in nodes(ast.Compare):
            for sign, right in zip(node.ops, node.comparators):
                if isinstance(sign, (ast.Is, ast.IsNot)):
                    self.assertIsInstance(right, ast.Constant, f"{path}:{node.lineno}")
                    self.assertIn(right.value, (None, True, False), f"{path}:{node.lineno}")


if __name__ == "__main__":
    unittest.main()
