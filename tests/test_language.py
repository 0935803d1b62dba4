"""Those rules of LANGUAGE.md that can be looked up in the package's files mechanically."""

import ast
import builtins
import re
import unittest
from pathlib import Path

PACKAGE = Path(__file__).resolve().parent.parent / "dealclerks"
FILES = sorted(PACKAGE.glob("*.py"))

BUILTINS = set(
    "len range enumerate zip min max sum abs sorted reversed int str bool bytes list tuple dict set frozenset "
    "isinstance ord repr any all divmod super Exception ValueError TypeError KeyError IndexError LookupError "
    "ZeroDivisionError ArithmeticError OverflowError RuntimeError NotImplementedError AttributeError "
    "StopIteration".split())
METHODS = set(
    "append clear copy count endswith extend find get index insert isalnum isalpha isdigit islower isspace isupper "
    "items join keys ljust lower lstrip partition pop remove replace reverse rfind rjust rpartition rsplit rstrip "
    "setdefault split splitlines startswith strip update upper values zfill bit_length add discard sort".split())
BARRED_WORDS = set(
    "type typing typing_extensions enum Enum IntEnum StrEnum Flag IntFlag Generic Protocol ABC ABCMeta namedtuple "
    "NamedTuple TypedDict TYPE_CHECKING abstractmethod".split())
BARRED_NODES = (
    ast.Global, ast.AsyncFunctionDef, ast.AsyncFor, ast.AsyncWith, ast.Await, ast.NamedExpr, ast.Div, ast.Import)


def trees():
    return [(file, ast.parse(file.read_text(encoding="utf-8"))) for file in FILES]


def imported(tree):
    """The full names of the modules that a file imports from."""
    return [node.module for node in ast.walk(tree) if isinstance(node, ast.ImportFrom)]


def top_names(tree):
    """The names that a file binds at module level."""
    found = []
    for node in tree.body:
        if isinstance(node, (ast.FunctionDef, ast.ClassDef)):
            found.append(node.name)
        elif isinstance(node, ast.ImportFrom):
            found.extend(alias.asname or alias.name for alias in node.names)
        elif isinstance(node, ast.Assign):
            found.extend(target.id for target in node.targets)
    return found


def classes():
    return [node for file, tree in trees() for node in tree.body if isinstance(node, ast.ClassDef)]


def own_methods():
    return [part.name for node in classes() for part in node.body if isinstance(part, ast.FunctionDef)]


def own_attributes():
    """The names that are assigned as attributes, in methods and in functions."""
    return [node.attr for file, tree in trees() for node in ast.walk(tree)
            if isinstance(node, ast.Attribute) and isinstance(node.ctx, ast.Store)]


class FilesTest(unittest.TestCase):
    def test_the_folder_has_python_files_alone(self):
        found = [path.name for path in PACKAGE.iterdir() if path.name != "__pycache__"]
        self.assertEqual(sorted(found), [file.name for file in FILES])
        self.assertIn("__init__.py", found)
        for name in found:
            self.assertRegex(name, r"\A[a-z0-9_]+\.py\Z")

    def test_characters_and_sizes(self):
        for file in FILES:
            text = file.read_text(encoding="utf-8")
            self.assertIsNone(re.search(r"[^\n -~]", text), file)
            rows = text.split("\n")
            self.assertLessEqual(len(rows), 400, file)
            self.assertLessEqual(max(len(row) for row in rows), 120, file)

    def test_barred_words(self):
        for file in FILES:
            text = file.read_text(encoding="utf-8")
            self.assertEqual(BARRED_WORDS & set(re.findall(r"\w+", text)), set(), file)
            self.assertIsNone(re.search("dataclass|overload|contextmanager", text), file)


class CodeTest(unittest.TestCase):
    def test_functions_are_short(self):
        for file, tree in trees():
            for node in ast.walk(tree):
                if isinstance(node, ast.FunctionDef):
                    self.assertLessEqual(node.end_lineno - node.lineno + 1, 40, (file, node.name))

    def test_module_level(self):
        allowed = (ast.FunctionDef, ast.ClassDef, ast.ImportFrom, ast.Assign)
        for file, tree in trees():
            self.assertIsNotNone(ast.get_docstring(tree), file)
            for node in tree.body[1:]:
                self.assertIsInstance(node, allowed, file)
            names = top_names(tree)
            self.assertEqual(len(set(names)), len(names), file)

    def test_imports_are_full_and_without_rounds(self):
        stems = {f"dealclerks.{file.stem}": imported(tree) for file, tree in trees()}
        self.assertEqual(stems["dealclerks.__init__"], [])
        for name, found in stems.items():
            for module in found:
                self.assertIn(module, stems)
        settled = []
        while len(settled) < len(stems):
            ready = [name for name in stems if name not in settled and set(stems[name]) <= set(settled)]
            self.assertTrue(ready, "files import from each other")
            settled.extend(ready)

    def test_imports_name_the_file_that_defines(self):
        defined = {f"dealclerks.{file.stem}": tree for file, tree in trees()}
        for file, tree in trees():
            for node in ast.walk(tree):
                if isinstance(node, ast.ImportFrom):
                    own = top_names(defined[node.module])
                    brought = [alias.name for part in defined[node.module].body
                               if isinstance(part, ast.ImportFrom) for alias in part.names]
                    for alias in node.names:
                        self.assertIn(alias.name, own, file)
                        self.assertNotIn(alias.name, brought, file)

    def test_barred_statements(self):
        for file, tree in trees():
            for node in ast.walk(tree):
                self.assertNotIsInstance(node, BARRED_NODES, (file, getattr(node, "lineno", 0)))
                if isinstance(node, ast.Compare):
                    for way, other in zip(node.ops, node.comparators):
                        if isinstance(way, (ast.Is, ast.IsNot)):
                            self.assertIsInstance(other, ast.Constant, (file, node.lineno))
                            self.assertIn(repr(other.value), ("None", "True", "False"), (file, node.lineno))
                if isinstance(node, ast.Constant):
                    self.assertNotIsInstance(node.value, (float, complex), (file, node.lineno))
                    if isinstance(node.value, str):
                        self.assertNotIn(chr(37), node.value, (file, node.lineno))

    def test_called_are_own_functions_and_known_builtins(self):
        methods = METHODS | set(own_methods())
        for file, tree in trees():
            # A function from a table is assigned to a name first.
            tables = {target.id for node in ast.walk(tree) if isinstance(node, ast.Assign)
                      and isinstance(node.value, ast.Subscript) for target in node.targets
                      if isinstance(target, ast.Name)}
            own = set(top_names(tree)) | tables
            for node in ast.walk(tree):
                if isinstance(node, ast.Call) and isinstance(node.func, ast.Name):
                    self.assertIn(node.func.id, own | BUILTINS, (file, node.lineno))
                if isinstance(node, ast.Call) and isinstance(node.func, ast.Attribute):
                    self.assertIn(node.func.attr, methods, (file, node.lineno))

    def test_methods_and_attributes(self):
        methods = [name for name in own_methods() if name != "__init__"]
        self.assertEqual(set(methods) & set(own_attributes()), set())
        for value in ("", 0, [], {}, set(), b""):
            self.assertEqual({name for name in methods + own_attributes() if hasattr(value, name)}, set())
        read = {node.attr for file, tree in trees() for node in ast.walk(tree) if isinstance(node, ast.Attribute)}
        self.assertEqual(read - set(own_attributes()) - set(methods) - METHODS, set())
        for name in set(methods + own_attributes()):
            self.assertFalse(name.startswith("_"), name)

    def test_every_import_is_used(self):
        for file, tree in trees():
            used = {node.id for node in ast.walk(tree) if isinstance(node, ast.Name)}
            brought = {alias.name for node in tree.body if isinstance(node, ast.ImportFrom) for alias in node.names}
            self.assertEqual(brought - used, set(), file)

    def test_local_names(self):
        for file, tree in trees():
            classes = [node.name for node in tree.body if isinstance(node, ast.ClassDef)]
            brought = [alias.name for node in tree.body if isinstance(node, ast.ImportFrom) for alias in node.names]
            taken = set(classes) | set(brought) | set(dir(builtins))
            for node in ast.walk(tree):
                name = None
                if isinstance(node, ast.arg):
                    name = node.arg
                if isinstance(node, ast.Name) and isinstance(node.ctx, ast.Store):
                    name = node.id
                if name is not None:
                    self.assertNotIn(name, taken, (file, node.lineno))
                    self.assertFalse(name.startswith("_"), (file, node.lineno))


if __name__ == "__main__":
    unittest.main()
