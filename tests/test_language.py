"""Tests of the form of the package's files: the rules of LANGUAGE.md that a short look can check."""

import ast
import builtins
import pathlib
import re
import unittest

PACKAGE = pathlib.Path(__file__).resolve().parent.parent / "seatworth"
FILES = sorted(PACKAGE.rglob("*.py"))
BARRED_WORDS = re.compile(
    r"\b(type|typing|typing_extensions|enum|Enum|IntEnum|StrEnum|Flag|IntFlag|Generic|Protocol|ABC|ABCMeta"
    r"|namedtuple|NamedTuple|TypedDict|TYPE_CHECKING|abstractmethod)\b|dataclass|overload|contextmanager"
)
BUILTINS = set(
    "len range enumerate zip min max sum abs sorted reversed int str bool bytes list tuple dict set frozenset"
    " isinstance ord repr any all divmod super property staticmethod classmethod Exception ValueError TypeError KeyError"
    " IndexError LookupError ZeroDivisionError ArithmeticError OverflowError RuntimeError NotImplementedError"
    " AttributeError StopIteration NotImplemented".split()
)
METHODS = set(
    "append clear copy count endswith extend find get index insert isalnum isalpha isdigit islower isspace isupper items join"
    " keys ljust lower lstrip partition pop remove replace reverse rfind rjust rpartition rsplit rstrip setdefault split"
    " splitlines startswith strip update upper values zfill bit_length add discard isascii __init__".split()
)
BARRED_NODES = (
    ast.Global, ast.AsyncFunctionDef, ast.AsyncFor, ast.AsyncWith, ast.Await, ast.Div, ast.MatMult, ast.Import,
)


def trees():
    for path in FILES:
        yield path.name, ast.parse(path.read_text(encoding="ascii"))


def nodes(*kinds):
    for name, tree in trees():
        for node in ast.walk(tree):
            if isinstance(node, kinds):
                yield f"{name}:{getattr(node, 'lineno', 0)}", node


def names_of(node):
    """The names that a statement at module level binds."""
    if isinstance(node, ast.ImportFrom):
        return [name.asname or name.name for name in node.names]
    if isinstance(node, (ast.FunctionDef, ast.ClassDef)):
        return [node.name]
    return [target.id for target in getattr(node, "targets", [])]


def names_bound(tree):
    """The names that a file defines itself."""
    return {name for node in tree.body if not isinstance(node, ast.ImportFrom) for name in names_of(node)}


class Files(unittest.TestCase):
    def test_the_folder_holds_plain_files_alone(self):
        self.assertTrue((PACKAGE / "__init__.py").is_file())
        for path in PACKAGE.rglob("*"):
            if "__pycache__" not in path.parts:
                self.assertRegex(path.name, r"\A([a-z][a-z0-9_]*|__init__|__main__)(\.py)?\Z")
                self.assertTrue(path.is_dir() or path.suffix == ".py", path)

    def test_sizes_and_signs(self):
        for path in FILES:
            text = path.read_bytes().decode("ascii")
            self.assertEqual(re.findall(r"[^\n -~]", text), [], path.name)
            rows = text.split("\n")
            self.assertLessEqual(len(rows), 401, path.name)
            self.assertLessEqual(max(len(row) for row in rows), 120, path.name)
            self.assertIsNone(BARRED_WORDS.search(text), path.name)

    def test_functions_are_short(self):
        for where, node in nodes(ast.FunctionDef):
            self.assertLessEqual(node.end_lineno - node.lineno + 1, 40, where)


class Code(unittest.TestCase):
    def test_imports_are_of_the_package(self):
        for where, node in nodes(ast.ImportFrom):
            self.assertEqual(node.level, 0, where)
            self.assertTrue(node.module == "__future__" or node.module.startswith("seatworth."), where)
            self.assertNotIn("*", [name.name for name in node.names], where)

    def test_imports_name_the_file_that_defines_the_name(self):
        defined = {f"seatworth.{name[:-3]}": names_bound(tree) for name, tree in trees()}
        for where, node in nodes(ast.ImportFrom):
            if node.module != "__future__":
                for name in node.names:
                    self.assertIn(name.name, defined[node.module], where)

    def test_no_two_files_import_from_each_other(self):
        needed = {
            f"seatworth.{name[:-3]}": {node.module for node in tree.body if isinstance(node, ast.ImportFrom)}
            for name, tree in trees()
        }
        while needed:
            free = [name for name, others in needed.items() if not others & set(needed)]
            self.assertTrue(free, needed)
            for name in free:
                del needed[name]

    def test_no_name_in_a_function_is_that_of_a_builtin_a_class_or_an_import(self):
        for file, tree in trees():
            barred = set(dir(builtins)) | {node.name for node in ast.walk(tree) if isinstance(node, ast.ClassDef)}
            for node in ast.walk(tree):
                if isinstance(node, ast.ImportFrom):
                    barred |= {name.asname or name.name for name in node.names}
            for node in ast.walk(tree):
                if isinstance(node, ast.arg):
                    self.assertNotIn(node.arg, barred, file)
                if isinstance(node, ast.Name) and isinstance(node.ctx, ast.Store):
                    self.assertNotIn(node.id, barred, f"{file}:{node.lineno}")

    def test_no_name_is_bound_twice_at_module_level(self):
        for file, tree in trees():
            bound = [name for node in tree.body for name in names_of(node)]
            self.assertEqual(len(bound), len(set(bound)), file)

    def test_no_generator_expression_stands_where_a_list_must(self):
        for where, node in nodes(ast.Call):
            if isinstance(node.func, ast.Name) and node.func.id in ("any", "all", "min", "max", "sum", "sorted"):
                self.assertEqual([one for one in node.args if isinstance(one, ast.GeneratorExp)], [], where)

    def test_methods_of_builtin_values_are_those_that_are_let(self):
        own = {node.name for where, node in nodes(ast.FunctionDef)}
        for where, node in nodes(ast.Call):
            if isinstance(node.func, ast.Attribute):
                self.assertIn(node.func.attr, own | METHODS, where)

    def test_what_is_iterated_at_once_is_not_stored(self):
        def is_iterated(node):
            if not isinstance(node, ast.Call):
                return False
            name = getattr(node.func, "id", None) or getattr(node.func, "attr", None)
            return name in ("range", "zip", "enumerate", "reversed", "items", "keys", "values")
        for where, node in nodes(ast.Assign, ast.Return):
            self.assertFalse(is_iterated(node.value), where)
        for where, node in nodes(ast.Tuple, ast.List):
            self.assertFalse(any(is_iterated(part) for part in node.elts), where)

    def test_exponents_are_literals(self):
        for where, node in nodes(ast.BinOp):
            if isinstance(node.op, ast.Pow):
                self.assertIsInstance(node.right, ast.Constant, where)
                self.assertIn(node.right.value, range(65), where)

    def test_no_name_is_a_method_in_one_class_and_an_attribute_in_another(self):
        methods = {part.name for where, node in nodes(ast.ClassDef) for part in node.body if isinstance(part, ast.FunctionDef)}
        stored = {node.attr for where, node in nodes(ast.Attribute) if isinstance(node.ctx, ast.Store)}
        read = {node.attr for where, node in nodes(ast.Attribute) if isinstance(node.ctx, ast.Load)}
        self.assertEqual(methods & stored, set())
        self.assertEqual(read - stored - methods - METHODS, set())

    def test_names_that_are_not_used(self):
        barred = set("register mro elements open input version_info with_traceback add_note".split())
        for where, node in nodes(ast.Name, ast.arg, ast.keyword, ast.Attribute, ast.FunctionDef, ast.ClassDef):
            for field in ("id", "arg", "attr", "name"):
                self.assertNotIn(getattr(node, field, None), barred, where)

    def test_lists_at_module_level_are_read_alone(self):
        for file, tree in trees():
            tables = {
                target.id for node in tree.body if isinstance(node, ast.Assign) and isinstance(node.value, (ast.List, ast.Dict))
                for target in node.targets
            }
            for node in ast.walk(tree):
                if isinstance(node, ast.Call):
                    if isinstance(node.func, ast.Attribute) and isinstance(node.func.value, ast.Name):
                        self.assertNotIn(node.func.value.id, tables, file)
                    self.assertEqual([one.id for one in node.args if isinstance(one, ast.Name) and one.id in tables], [], file)
                if isinstance(node, ast.Subscript) and isinstance(node.value, ast.Name) and node.value.id in tables:
                    self.assertIsInstance(node.ctx, ast.Load, file)

    def test_statements_and_signs_that_are_barred(self):
        self.assertEqual([where for where, node in nodes(*BARRED_NODES)], [])

    def test_no_number_with_a_point_and_no_percent_in_a_string(self):
        for where, node in nodes(ast.Constant):
            self.assertNotIsInstance(node.value, (float, complex), where)
            if isinstance(node.value, str):
                self.assertNotIn("%", node.value, where)

    def test_builtins_are_those_that_are_let(self):
        for where, node in nodes(ast.Name):
            if hasattr(builtins, node.id):
                self.assertIn(node.id, BUILTINS, where)

    def test_no_name_begins_with_an_underscore(self):
        for where, node in nodes(ast.Name, ast.arg, ast.ClassDef):
            name = getattr(node, "id", None) or getattr(node, "arg", None) or getattr(node, "name", None)
            self.assertFalse(name.startswith("_"), where)

    def test_is_stands_with_none_and_truths_alone(self):
        for where, node in nodes(ast.Compare):
            for sign, right in zip(node.ops, node.comparators):
                if isinstance(sign, (ast.Is, ast.IsNot)):
                    self.assertIsInstance(right, ast.Constant, where)
                    self.assertIn(right.value, (None, True, False), where)


if __name__ == "__main__":
    unittest.main()
