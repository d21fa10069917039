"""The rules of the language that can be seen in the files of the package."""

import ast
import pathlib
import re
import unittest

import holdshelf

FOLDER = pathlib.Path(holdshelf.__file__).parent

BUILTINS = set(
    "len range enumerate zip min max sum abs sorted reversed int str bool bytes list tuple dict set frozenset "
    "isinstance ord repr any all divmod Exception ValueError TypeError KeyError IndexError LookupError "
    "ZeroDivisionError ArithmeticError OverflowError RuntimeError NotImplementedError AttributeError "
    "StopIteration NotImplemented super property staticmethod classmethod object".split()
)

BUILTIN_METHODS = set(
    "append clear copy count endswith extend find get index insert isalnum isalpha isdigit islower isspace isupper "
    "items join keys ljust lower lstrip partition pop remove replace reverse rfind rjust rpartition rsplit rstrip "
    "setdefault split splitlines startswith strip update upper values zfill bit_length __init__".split()
)

BARRED = re.compile(
    r"\b(type|typing|typing_extensions|enum|Enum|IntEnum|StrEnum|Flag|IntFlag|Generic|Protocol|ABC|ABCMeta"
    r"|namedtuple|NamedTuple|TypedDict|TYPE_CHECKING|abstractmethod)\b|dataclass|overload|contextmanager"
)

BARRED_NODES = (
    ast.Global, ast.AsyncFunctionDef, ast.AsyncFor, ast.AsyncWith, ast.Await, ast.Div, ast.MatMult, ast.Import,
)


def files():
    return sorted(FOLDER.rglob("*.py"))


def bound_names(tree):
    """All names that a file binds anywhere, and the builtins it may use."""
    found = set(BUILTINS)
    for node in ast.walk(tree):
        if isinstance(node, (ast.FunctionDef, ast.ClassDef)):
            found.add(node.name)
        elif isinstance(node, ast.arg):
            found.add(node.arg)
        elif isinstance(node, ast.ImportFrom):
            found.update(name.asname or name.name for name in node.names)
        elif isinstance(node, ast.Name) and not isinstance(node.ctx, ast.Load):
            found.add(node.id)
    return found


def defined_at_top(tree):
    found = []
    for node in tree.body:
        if isinstance(node, (ast.FunctionDef, ast.ClassDef)):
            found.append(node.name)
        elif isinstance(node, ast.Assign):
            found += [target.id for target in node.targets]
        elif isinstance(node, ast.ImportFrom):
            found += [name.asname or name.name for name in node.names]
    return found


class Language(unittest.TestCase):
    def trees(self):
        for path in files():
            yield path, ast.parse(path.read_text(encoding="utf-8"))

    def own_methods(self):
        classes = [node for path, tree in self.trees() for node in ast.walk(tree) if isinstance(node, ast.ClassDef)]
        return {row.name for node in classes for row in node.body if isinstance(row, ast.FunctionDef)}

    def test_the_folder_has_plain_files_alone(self):
        for path in FOLDER.rglob("*"):
            if "__pycache__" not in path.parts and not path.is_dir():
                self.assertRegex(path.name, r"^[a-z0-9_]+\.py$")

    def test_signs_lines_and_words(self):
        for path in files():
            text = path.read_text(encoding="utf-8")
            self.assertRegex(text, r"\A[ -~\n]*\Z", path)
            self.assertIsNone(BARRED.search(text), path)
            lines = text.splitlines()
            self.assertLessEqual(len(lines), 400, path)
            for line in lines:
                self.assertLessEqual(len(line), 120, path)

    def test_functions_are_short_and_have_plain_names(self):
        for path, tree in self.trees():
            for node in ast.walk(tree):
                if isinstance(node, ast.FunctionDef):
                    self.assertLessEqual(node.end_lineno - node.lineno + 1, 40, (path, node.name))
            for name in bound_names(tree):
                self.assertTrue(name == "__init__" or not name.startswith("_"), (path, name))

    def test_imports_name_the_file_that_defines(self):
        for path, tree in self.trees():
            for node in ast.walk(tree):
                if isinstance(node, ast.ImportFrom):
                    self.assertIn(node, tree.body, path)
                    self.assertEqual(node.level, 0, path)
                    self.assertRegex(node.module, r"^holdshelf\.[a-z0-9_]+$", path)
                    source = ast.parse((FOLDER / (node.module.split(".")[1] + ".py")).read_text())
                    kinds = (ast.FunctionDef, ast.ClassDef, ast.Assign)
                    source.body = [row for row in source.body if isinstance(row, kinds)]
                    for name in node.names:
                        self.assertIn(name.name, defined_at_top(source), path)

    def test_names_at_the_top_are_bound_once_and_hidden_by_none(self):
        for path, tree in self.trees():
            top = defined_at_top(tree)
            self.assertEqual(len(top), len(set(top)), path)
            for node in ast.walk(tree):
                if isinstance(node, ast.arg):
                    self.assertNotIn(node.arg, BUILTINS, path)
                    self.assertNotIn(node.arg, top, path)
                if isinstance(node, ast.Name) and isinstance(node.ctx, ast.Store) and node.id not in top:
                    self.assertNotIn(node.id, BUILTINS, path)

    def test_no_name_is_a_method_and_an_attribute(self):
        methods, attributes = self.own_methods(), set()
        for path, tree in self.trees():
            for node in ast.walk(tree):
                if isinstance(node, ast.Attribute) and isinstance(node.ctx, ast.Store):
                    attributes.add(node.attr)
        self.assertEqual(methods & attributes, set())
        for name in attributes | methods - {"__init__"}:
            for builtin in (str, int, list, dict, set, bytes):
                self.assertFalse(hasattr(builtin, name), name)

    def test_methods_are_own_ones_or_of_the_list(self):
        own = self.own_methods()
        for path, tree in self.trees():
            for node in ast.walk(tree):
                if isinstance(node, ast.Call) and isinstance(node.func, ast.Attribute):
                    self.assertIn(node.func.attr, own | BUILTIN_METHODS, path)

    def test_own_methods_are_called_where_they_stand(self):
        own = self.own_methods()
        for path, tree in self.trees():
            called = {node.func for node in ast.walk(tree) if isinstance(node, ast.Call)}
            for node in ast.walk(tree):
                if isinstance(node, ast.Attribute) and node.attr in own:
                    self.assertIn(node, called, (path, node.attr))

    def test_no_barred_statements_values_and_builtins(self):
        for path, tree in self.trees():
            known = bound_names(tree)
            for node in ast.walk(tree):
                self.assertNotIsInstance(node, BARRED_NODES, path)
                if isinstance(node, ast.Name):
                    self.assertIn(node.id, known, path)
                if isinstance(node, ast.Constant):
                    self.assertNotIsInstance(node.value, (float, complex), path)
                    self.assertNotIn("%", str(node.value), path)
                if isinstance(node, ast.Compare) and isinstance(node.ops[0], (ast.Is, ast.IsNot)):
                    self.assertIn(ast.unparse(node.comparators[0]), ("None", "True", "False"), path)


if __name__ == "__main__":
    unittest.main()
