"""The rules of the language that the files themselves show: names, sizes, imports, builtins, signs."""

import ast
import builtins
import pathlib
import re
import unittest

FOLDER = pathlib.Path(__file__).resolve().parent.parent / "storeways"
FILES = sorted(FOLDER.glob("*.py"))
ALLOWED = set("""len range enumerate zip min max sum abs sorted reversed int str bool bytes list tuple dict set frozenset
    isinstance ord repr any all divmod iter next Exception ValueError TypeError KeyError IndexError LookupError
    ZeroDivisionError ArithmeticError OverflowError RuntimeError NotImplementedError AttributeError StopIteration
    NotImplemented""".split())
METHODS = set("""append clear copy count endswith extend find get index insert isalnum isalpha isdigit islower isspace
    isupper items join keys ljust lower lstrip partition pop remove replace reverse rfind rjust rpartition rsplit rstrip
    setdefault split splitlines startswith strip update upper values zfill bit_length add discard""".split())
BARRED = re.compile(r"\b(type|typing|typing_extensions|enum|Enum|IntEnum|StrEnum|Flag|IntFlag|Generic|Protocol|ABC|ABCMeta|"
                    r"namedtuple|NamedTuple|TypedDict|TYPE_CHECKING|abstractmethod)\b|dataclass|overload|contextmanager")
SPECIAL = ("__init__", "__eq__", "__str__", "__len__")
STATEMENTS = (ast.ImportFrom, ast.FunctionDef, ast.ClassDef, ast.Assign, ast.Expr)
LAZY = ("any", "all", "min", "max", "sum", "sorted")


def defined(tree):
    """The names that a file binds at module level by itself."""
    names = [node.name for node in tree.body if isinstance(node, (ast.FunctionDef, ast.ClassDef))]
    names.extend([node.targets[0].id for node in tree.body if isinstance(node, ast.Assign)])
    return names


def imports(tree):
    """The pairs (module, name) that a file imports."""
    return [(node.module, name.name) for node in tree.body if isinstance(node, ast.ImportFrom) for name in node.names]


class TestLanguage(unittest.TestCase):
    @classmethod
    def setUpClass(cls):
        cls.texts = {path.stem: path.read_text(encoding="ascii") for path in FILES}
        cls.trees = {name: ast.parse(text) for name, text in cls.texts.items()}

    def nodes(self, *kinds):
        for name, tree in self.trees.items():
            for node in ast.walk(tree):
                if isinstance(node, kinds):
                    yield f"{name}.py:{getattr(node, 'lineno', 0)}", node

    def test_files(self):
        for path in FOLDER.iterdir():
            if path.name != "__pycache__":
                self.assertRegex(path.name, r"^[a-z_][a-z0-9_]*\.py$")

    def test_signs_and_sizes(self):
        for name, text in self.texts.items():
            self.assertTrue(all(" " <= sign <= "~" or sign == "\n" for sign in text), name)
            self.assertLessEqual(len(text.splitlines()), 399, name)
            self.assertLessEqual(max(map(len, text.splitlines())), 120, name)
            self.assertIsNone(BARRED.search(text), name)
        for where, node in self.nodes(ast.FunctionDef):
            self.assertLessEqual(node.end_lineno - node.lineno + 1, 40, where)

    def test_module_level(self):
        for name, tree in self.trees.items():
            for node in tree.body:
                self.assertIsInstance(node, STATEMENTS, name)
                if isinstance(node, ast.Expr):
                    self.assertIsInstance(node.value, ast.Constant, name)
            bound = defined(tree) + [name for module, name in imports(tree)]
            self.assertEqual(len(set(bound)), len(bound), name)

    def test_imports(self):
        for name, tree in self.trees.items():
            for module, what in imports(tree):
                self.assertTrue(module.startswith("storeways."), name)
                self.assertIn(what, defined(self.trees[module.partition(".")[2]]), name)
        for where, node in self.nodes(ast.Import):
            self.fail(where)

    def test_no_file_imports_itself_through_others(self):
        after = {name: {module.partition(".")[2] for module, what in imports(tree)} for name, tree in self.trees.items()}
        for name in after:
            seen, todo = set(), list(after[name])
            while todo:
                other = todo.pop()
                if other not in seen:
                    seen.add(other)
                    todo.extend(after[other])
            self.assertNotIn(name, seen)

    def test_names(self):
        for where, node in self.nodes(ast.Name, ast.arg, ast.FunctionDef, ast.ClassDef, ast.Attribute):
            name = [getattr(node, field) for field in ("id", "arg", "name", "attr") if hasattr(node, field)][0]
            self.assertTrue(name in SPECIAL or not name.startswith("_"), f"{where} {name}")
            if name in dir(builtins):
                self.assertTrue(isinstance(node, ast.Name) and isinstance(node.ctx, ast.Load), f"{where} {name}")
                self.assertIn(name, ALLOWED, where)

    def test_no_variable_is_called_like_an_import_or_a_class(self):
        for name, tree in self.trees.items():
            taken = {what for module, what in imports(tree)}
            taken |= {node.name for node in tree.body if isinstance(node, ast.ClassDef)}
            for node in ast.walk(tree):
                if isinstance(node, ast.arg):
                    self.assertNotIn(node.arg, taken, f"{name}.py:{node.lineno}")
                if isinstance(node, ast.Name) and isinstance(node.ctx, ast.Store):
                    self.assertNotIn(node.id, taken, f"{name}.py:{node.lineno}")

    def test_no_name_is_a_method_and_an_attribute(self):
        methods = {method.name for where, node in self.nodes(ast.ClassDef) for method in node.body if isinstance(method, ast.FunctionDef)}
        for where, node in self.nodes(ast.Attribute):
            if isinstance(node.ctx, ast.Store):
                self.assertNotIn(node.attr, methods, where)

    def test_methods(self):
        own = {node.name for where, node in self.nodes(ast.FunctionDef)}
        for where, node in self.nodes(ast.Call):
            if isinstance(node.func, ast.Attribute):
                self.assertIn(node.func.attr, METHODS | own, where)

    def test_signs_that_are_not_used(self):
        for where, node in self.nodes(ast.Div, ast.Global, ast.AsyncFunctionDef, ast.Await):
            self.fail(f"{where} {node}")
        for where, node in self.nodes(ast.Constant):
            self.assertNotIsInstance(node.value, (float, complex), where)
            self.assertFalse(isinstance(node.value, str) and "%" in node.value, where)
        for where, node in self.nodes(ast.Compare):
            for sign, other in zip(node.ops, node.comparators):
                if isinstance(sign, (ast.Is, ast.IsNot)):
                    self.assertTrue(isinstance(other, ast.Constant), where)

    def test_what_stands_at_module_level_is_plain(self):
        for name, tree in self.trees.items():
            own = set()
            for node in tree.body:
                if isinstance(node, ast.FunctionDef):
                    own.add(node.name)
                for part in ast.walk(node) if isinstance(node, ast.Assign) else ():
                    self.assertNotIsInstance(part, (ast.Call, ast.Lambda, ast.ListComp, ast.DictComp), f"{name}.py:{node.lineno}")
                    if isinstance(part, ast.Name) and isinstance(part.ctx, ast.Load):
                        self.assertIn(part.id, own, f"{name}.py:{node.lineno}")

    def test_len_and_str_return_by_their_builtins(self):
        for where, node in self.nodes(ast.FunctionDef):
            if node.name in ("__len__", "__str__"):
                self.assertIsInstance(node.body[-1], ast.Return, where)
                for part in ast.walk(node):
                    if isinstance(part, ast.Return):
                        self.assertEqual(part.value.func.id, node.name.strip("_"), where)

    def test_errors_of_python_are_not_caught(self):
        own = {node.name for where, node in self.nodes(ast.ClassDef)}
        for where, node in self.nodes(ast.ExceptHandler):
            self.assertIn(node.type.id, own, where)

    def test_lists_for_what_looks_at_all(self):
        for where, node in self.nodes(ast.Call):
            if isinstance(node.func, ast.Name) and node.func.id in LAZY:
                self.assertFalse(any(isinstance(thing, ast.GeneratorExp) for thing in node.args), where)


if __name__ == "__main__":
    unittest.main()
