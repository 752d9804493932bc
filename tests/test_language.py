"""The form of the code: those rules of the language that a short look at the files can decide."""

import ast
import builtins
import pathlib
import re
import unittest

PACKAGE = pathlib.Path(__file__).resolve().parent.parent / "galleypapers"
FILES = [path for path in sorted(PACKAGE.rglob("*")) if "__pycache__" not in path.parts]

BUILTINS = set("""len range enumerate zip min max sum abs sorted reversed int str bool bytes list tuple dict set
    frozenset isinstance ord repr any all divmod pow iter next getattr hasattr setattr super Exception ValueError
    TypeError KeyError IndexError LookupError ZeroDivisionError ArithmeticError OverflowError RuntimeError
    NotImplementedError AttributeError StopIteration NotImplemented property staticmethod classmethod""".split())
METHODS = set("""append clear copy count endswith extend find get index insert isalnum isalpha isdigit islower isspace
    isupper items join keys ljust lower lstrip partition pop remove replace reverse rfind rjust rpartition rsplit
    rstrip setdefault split splitlines startswith strip update upper values zfill bit_length title capitalize swapcase
    casefold center expandtabs removeprefix removesuffix rindex isascii isdecimal isnumeric istitle isidentifier
    isprintable translate add discard sort format encode decode hex""".split())
LIBRARY = {"heapq", "math", "itertools", "collections"}
BARRED = (ast.Global, ast.AsyncFunctionDef, ast.AsyncFor, ast.AsyncWith, ast.Await, ast.Div, ast.MatMult)


def trees():
    """The files of the package with their syntax trees."""
    return [(path, ast.parse(path.read_text(encoding="ascii"))) for path in FILES if path.suffix == ".py"]


def nodes():
    """All parts of all files, with their file."""
    return [(path, node) for path, tree in trees() for node in ast.walk(tree)]


class TestLanguage(unittest.TestCase):
    def test_files(self):
        self.assertTrue((PACKAGE / "__init__.py").exists())
        for path in FILES:
            if path.is_file():
                self.assertRegex(path.name, r"^[a-z0-9_]+\.py$")

    def test_sizes(self):
        for path, tree in trees():
            lines = path.read_text(encoding="ascii").split("\n")
            self.assertLessEqual(len(lines), 399, path)
            for number, line in enumerate(lines):
                self.assertLessEqual(len(line), 120, (path, number + 1))
                self.assertNotRegex(line, r"[^ -~]|_wall|_WallAttr", (path, number + 1))
            for node in ast.walk(tree):
                if isinstance(node, ast.FunctionDef):
                    self.assertLessEqual(node.end_lineno - node.lineno + 1, 40, (path, node.name))

    def test_imports(self):
        for path, node in nodes():
            self.assertNotIsInstance(node, ast.Import, path)
            if isinstance(node, ast.ImportFrom):
                self.assertEqual(node.level, 0, path)
                self.assertIn(node.module.split(".")[0], LIBRARY | {"galleypapers"}, path)
                self.assertFalse([name for name in node.names if name.name == "*" or name.asname], path)

    def test_statements(self):
        for path, node in nodes():
            self.assertNotIsInstance(node, BARRED, path)
            if isinstance(node, ast.Try):
                for handler in node.handlers:
                    self.assertIsNotNone(handler.type, path)

    def test_module_level(self):
        for path, tree in trees():
            bound = []
            for at, node in enumerate(tree.body):
                if isinstance(node, ast.Expr):
                    self.assertEqual((at, type(node.value)), (0, ast.Constant), path)
                elif isinstance(node, ast.Assign):
                    bound += [target.id for target in node.targets]
                elif isinstance(node, ast.ImportFrom):
                    bound += [name.name for name in node.names]
                else:
                    self.assertIsInstance(node, (ast.FunctionDef, ast.ClassDef), path)
                    bound.append(node.name)
            self.assertEqual(len(bound), len(set(bound)), path)

    def test_builtins_and_methods(self):
        own = set()
        for _, node in nodes():
            if isinstance(node, ast.FunctionDef):
                own.add(node.name)
        for path, node in nodes():
            if isinstance(node, ast.Name):
                if hasattr(builtins, node.id):
                    self.assertIn(node.id, BUILTINS, path)
                    self.assertIsInstance(node.ctx, ast.Load, path)
            if isinstance(node, ast.arg):
                self.assertFalse(hasattr(builtins, node.arg), (path, node.arg))
            if isinstance(node, ast.Call) and isinstance(node.func, ast.Attribute):
                self.assertIn(node.func.attr, METHODS | own | {"__init__"}, path)

    def test_names_within_functions(self):
        for path, tree in trees():
            taken = {node.name for node in tree.body if isinstance(node, ast.ClassDef)}
            for node in tree.body:
                if isinstance(node, ast.ImportFrom):
                    taken |= {name.name for name in node.names}
            for node in ast.walk(tree):
                if isinstance(node, ast.arg):
                    self.assertNotIn(node.arg, taken, (path, node.lineno))
                if isinstance(node, ast.Name) and isinstance(node.ctx, ast.Store):
                    self.assertNotIn(node.id, taken, (path, node.lineno))

    def test_attributes(self):
        barred = set("items keys values pop update append clear extend insert remove reverse setdefault sort args".split())
        for path, node in nodes():
            if isinstance(node, ast.Attribute) and isinstance(node.ctx, ast.Store):
                self.assertNotIn(node.attr, barred, (path, node.lineno))

    def test_names_of_classes(self):
        for path, node in nodes():
            if isinstance(node, ast.ClassDef):
                self.assertRegex(node.name, "^[A-Z]", path)

    def test_strings(self):
        for path, node in nodes():
            if isinstance(node, ast.Constant):
                self.assertNotIsInstance(node.value, (float, complex), path)
                if isinstance(node.value, str):
                    self.assertNotIn(chr(37), node.value, (path, node.lineno))

    def test_escapes(self):
        for path, node in nodes():
            if isinstance(node, (ast.Constant, ast.JoinedStr)):
                source = ast.get_source_segment(path.read_text(encoding="ascii"), node) or ""
                self.assertFalse(re.findall(r"\\[^n t\\'\"]", source.replace("\\\\", "")), (path, node.lineno))


if __name__ == "__main__":
    unittest.main()
