"""The package keeps to those rules of LANGUAGE.md that can be read off its files by plain means."""

import ast
import builtins
import pathlib
import re
import unittest

FOLDER = pathlib.Path(__file__).resolve().parent.parent / "weave"
FILES = {path.name: path.read_text() for path in sorted(FOLDER.glob("*.py"))}
TREES = {name: ast.parse(text) for name, text in FILES.items()}

ALLOWED_BUILTINS = set(
    "len range enumerate zip min max sum abs sorted reversed int str bool bytes list tuple dict set frozenset isinstance"
    " ord repr any all divmod Exception ValueError TypeError KeyError IndexError LookupError ZeroDivisionError"
    " ArithmeticError OverflowError RuntimeError NotImplementedError AttributeError StopIteration NotImplemented super"
    " property staticmethod classmethod iter next".split()
)
BARRED_WORDS = (
    "type typing typing_extensions enum Enum IntEnum StrEnum Flag IntFlag Generic Protocol ABC ABCMeta namedtuple"
    " NamedTuple TypedDict TYPE_CHECKING abstractmethod".split()
)
BARRED_INSIDE = ("dataclass", "overload", "contextmanager")
BARRED_NAMES = set(
    "register mro elements open input version_info with_traceback add_note attrgetter breakpoint builtins compile"
    " copyright credits delattr dir eval exec exit gc getattr globals hasattr help id importlib license locals"
    " methodcaller os quit setattr super type vars sys".split()
)
BUILTIN_METHODS = set(
    "append clear copy count endswith extend find get index insert isalnum isalpha isdigit islower isspace isupper items"
    " join keys ljust lower lstrip partition pop remove replace reverse rfind rjust rpartition rsplit rstrip setdefault"
    " split splitlines startswith strip update upper values zfill bit_length sort add discard".split()
)
BARRED_NODES = (
    ast.Global, ast.AsyncFunctionDef, ast.AsyncFor, ast.AsyncWith, ast.Await, ast.Div, ast.MatMult, ast.Import,
)


def nodes(kind):
    for name, tree in TREES.items():
        for node in ast.walk(tree):
            if isinstance(node, kind):
                yield name, node


class LanguageTest(unittest.TestCase):
    def test_files(self):
        self.assertIn("__init__.py", FILES)
        for path in FOLDER.iterdir():
            if path.name != "__pycache__":
                self.assertRegex(path.name, r"\A([a-z][a-z0-9_]*|__init__|__main__)\.py\Z")
        self.assertLessEqual(len(FILES), 100)

    def test_sizes_and_signs(self):
        for name, text in FILES.items():
            rows = text.split("\n")
            self.assertLessEqual(len(rows), 401, name)
            self.assertLessEqual(max(len(row) for row in rows), 120, name)
            self.assertRegex(text, r"\A[ -~\n]*\Z", name)

    def test_functions_are_small(self):
        for name, node in nodes(ast.FunctionDef):
            self.assertLessEqual(node.end_lineno - node.lineno + 1, 40, f"{name}: {node.name}")

    def test_words(self):
        for name, text in FILES.items():
            for word in BARRED_WORDS:
                self.assertIsNone(re.search(rf"\b{word}\b", text), f"{name}: {word}")
            for word in BARRED_INSIDE:
                self.assertNotIn(word, text, name)

    def test_imports_name_the_file_that_defines_the_name(self):
        for name, node in nodes(ast.ImportFrom):
            self.assertEqual(node.level, 0, name)
            module = node.module.removeprefix("weave.") + ".py"
            self.assertIn(module, TREES, f"{name}: {node.module}")
            bound = set()
            for row in TREES[module].body:
                if isinstance(row, (ast.FunctionDef, ast.ClassDef)):
                    bound.add(row.name)
                elif isinstance(row, ast.Assign):
                    bound.add(row.targets[0].id)
            for alias in node.names:
                self.assertIn(alias.name, bound, name)

    def test_every_import_is_used(self):
        for name, node in nodes(ast.ImportFrom):
            used = {inner.id for inner in ast.walk(TREES[name]) if isinstance(inner, ast.Name)}
            for alias in node.names:
                self.assertIn(alias.asname or alias.name, used, name)

    def test_module_level(self):
        for name, tree in TREES.items():
            for row in tree.body:
                plain = isinstance(row, (ast.FunctionDef, ast.ClassDef, ast.ImportFrom, ast.Assign))
                docstring = isinstance(row, ast.Expr) and isinstance(row.value, ast.Constant)
                self.assertTrue(plain or docstring, f"{name}: {row.lineno}")

    def test_statements_and_signs_that_are_not_allowed(self):
        for name, node in nodes(BARRED_NODES):
            self.fail(f"{name}: {node}")
        for name, node in nodes(ast.Constant):
            self.assertNotIsInstance(node.value, float, name)
            if isinstance(node.value, str):
                self.assertNotIn(chr(37), node.value, name)
        for name, node in nodes(ast.Compare):
            for sign, right in zip(node.ops, node.comparators):
                if isinstance(sign, (ast.Is, ast.IsNot)):
                    self.assertIn(ast.unparse(right), ("None", "True", "False"), f"{name}: {node.lineno}")

    def test_builtins(self):
        for name, node in nodes(ast.Name):
            if hasattr(builtins, node.id):
                self.assertIn(node.id, ALLOWED_BUILTINS, f"{name}: {node.lineno}")
                self.assertIsInstance(node.ctx, ast.Load, f"{name}: {node.lineno}")

    def test_names(self):
        for name, node in nodes((ast.Name, ast.arg, ast.FunctionDef, ast.ClassDef)):
            word = getattr(node, "id", None) or getattr(node, "arg", None) or getattr(node, "name", None)
            self.assertTrue(re.match(r"\A[A-Za-z][A-Za-z0-9_]*\Z", word) or word == "__init__", f"{name}: {word}")
            self.assertNotIn(word, BARRED_NAMES, name)
        for name, node in nodes(ast.arg):
            self.assertFalse(hasattr(builtins, node.arg), f"{name}: {node.arg}")

    def test_no_variable_has_the_name_of_an_import_or_a_class(self):
        for name, tree in TREES.items():
            taken = {alias.name for row in tree.body if isinstance(row, ast.ImportFrom) for alias in row.names}
            taken |= {row.name for row in tree.body if isinstance(row, (ast.FunctionDef, ast.ClassDef))}
            for node in ast.walk(tree):
                if isinstance(node, ast.Name) and isinstance(node.ctx, ast.Store):
                    self.assertNotIn(node.id, taken, name)
                if isinstance(node, ast.arg):
                    self.assertNotIn(node.arg, taken, name)

    def test_methods_of_builtin_values(self):
        own = {node.name for _, tree in nodes(ast.ClassDef) for node in tree.body if isinstance(node, ast.FunctionDef)}
        for name, node in nodes(ast.Call):
            if isinstance(node.func, ast.Attribute):
                self.assertIn(node.func.attr, BUILTIN_METHODS | own, f"{name}: {node.lineno}")

    def test_no_name_is_a_method_and_an_attribute(self):
        methods = {node.name for _, tree in nodes(ast.ClassDef) for node in tree.body if isinstance(node, ast.FunctionDef)}
        stored = {node.attr for _, node in nodes(ast.Attribute) if isinstance(node.ctx, ast.Store)}
        self.assertEqual(methods & stored, set())
        called = {id(node.func) for _, node in nodes(ast.Call)}
        for name, node in nodes(ast.Attribute):
            if isinstance(node.ctx, ast.Load) and id(node) not in called:
                self.assertIn(node.attr, stored, f"{name}: {node.lineno}")

    def test_no_two_files_import_from_each_other(self):
        ahead = {name: set() for name in FILES}
        for name, node in nodes(ast.ImportFrom):
            ahead[name].add(node.module.removeprefix("weave.") + ".py")
        done = set()
        while len(done) < len(ahead):
            ready = {name for name, others in ahead.items() if others <= done} - done
            self.assertTrue(ready, sorted(set(ahead) - done))
            done |= ready


if __name__ == "__main__":
    unittest.main()
