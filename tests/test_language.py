"""The rules of ../shared/LANGUAGE.md that can be seen in the text of the package alone."""

import ast
import builtins
import pathlib
import re
import unittest

ROOT = pathlib.Path(__file__).resolve().parent.parent / "farfacts"

METHODS = """append clear copy count endswith extend find get index insert isalnum isalpha isdigit islower isspace
isupper items join keys ljust lower lstrip partition pop remove replace reverse rfind rjust rpartition rsplit rstrip
setdefault split splitlines startswith strip update upper values zfill bit_length title capitalize swapcase casefold
center expandtabs removeprefix removesuffix rindex isascii isdecimal isnumeric istitle isidentifier isprintable
translate maketrans encode decode hex from_bytes add discard sort format""".split()
BUILTINS = """len range enumerate zip min max sum abs sorted reversed int str bool bytes list tuple dict set frozenset
isinstance ord repr any all divmod pow getattr hasattr setattr iter next map super Exception ValueError TypeError
KeyError IndexError LookupError ZeroDivisionError ArithmeticError OverflowError RuntimeError NotImplementedError
AttributeError StopIteration NotImplemented""".split()
BARRED = """type typing typing_extensions enum Enum IntEnum StrEnum Flag IntFlag Generic Protocol ABC ABCMeta namedtuple
NamedTuple TypedDict TYPE_CHECKING abstractmethod dataclass overload contextmanager register mro elements open input
law eval exec globals locals vars dir id os gc help exit quit""".split()
STATEMENTS = (ast.FunctionDef, ast.ClassDef, ast.Assign, ast.ImportFrom, ast.Expr, ast.If, ast.For, ast.While, ast.Return,
              ast.Break, ast.Continue, ast.Pass, ast.Raise, ast.Assert, ast.Delete, ast.AugAssign, ast.Try, ast.With,
              ast.Match, ast.Nonlocal, ast.AnnAssign)


def sources():
    return [path for path in sorted(ROOT.rglob("*")) if "__pycache__" not in path.parts]


class LanguageTest(unittest.TestCase):
    def trees(self):
        for path in sources():
            yield path.name, ast.parse(path.read_text("ascii"))

    def test_files(self):
        names = [path.name for path in sources()]
        self.assertIn("__init__.py", names)
        for name in names:
            self.assertRegex(name, r"^[a-z_0-9]+\.py$")

    def test_lines(self):
        for path in sources():
            data = path.read_bytes()
            self.assertTrue(all(sign == 10 or 32 <= sign <= 126 for sign in data), path)
            lines = data.decode("ascii").split("\n")
            self.assertLessEqual(len(lines) - 1, 399, path)
            self.assertLessEqual(max(len(line) for line in lines), 120, path)

    def test_functions_are_small_and_bare(self):
        for name, tree in self.trees():
            for node in ast.walk(tree):
                if isinstance(node, ast.FunctionDef):
                    self.assertLessEqual(node.end_lineno - node.lineno + 1, 40, (name, node.name))
                if isinstance(node, ast.ClassDef):
                    self.assertEqual(node.decorator_list, [], (name, node.name))
                if isinstance(node, ast.stmt):
                    self.assertIsInstance(node, STATEMENTS, (name, node.lineno))

    def test_imports(self):
        for name, tree in self.trees():
            for node in ast.walk(tree):
                self.assertNotIsInstance(node, ast.Import, name)
                if isinstance(node, ast.ImportFrom):
                    self.assertIn(node, tree.body, name)
                    self.assertEqual(node.level, 0)
                    known = ("__future__", "heapq", "math", "itertools", "collections")
                    self.assertTrue(node.module.startswith("farfacts.") or node.module in known, (name, node.module))
                    self.assertTrue(all(alias.name != "*" for alias in node.names), name)

    def test_no_circle_of_imports(self):
        table = {}
        for name, tree in self.trees():
            table["farfacts." + name[:-3]] = [node.module for node in tree.body if isinstance(node, ast.ImportFrom)]
        while table:
            free = [name for name in table if not any(other in table for other in table[name])]
            self.assertTrue(free, sorted(table))
            for name in free:
                del table[name]

    def test_expressions(self):
        for name, tree in self.trees():
            for node in ast.walk(tree):
                place = (name, getattr(node, "lineno", 0))
                if isinstance(node, ast.Constant):
                    self.assertNotIsInstance(node.value, (float, complex), place)
                    if isinstance(node.value, str):
                        self.assertNotIn(chr(37), node.value, place)
                self.assertNotIsInstance(node, (ast.Div, ast.Await, ast.AsyncFunctionDef, ast.Global), place)
                if isinstance(node, ast.Call) and isinstance(node.func, ast.Name) and node.func.id in dir(builtins):
                    self.assertIn(node.func.id, BUILTINS, place)

    def test_names(self):
        for name, tree in self.trees():
            bound = [node.id for node in ast.walk(tree) if isinstance(node, ast.Name) and isinstance(node.ctx, ast.Store)]
            bound += [node.arg for node in ast.walk(tree) if isinstance(node, ast.arg)]
            bound += [node.name for node in tree.body if isinstance(node, (ast.FunctionDef, ast.ClassDef))]
            for word in bound:
                if word not in ("__slots__", "__all__", "__version__"):
                    self.assertFalse(word.startswith("__"), (name, word))
                self.assertNotIn(word, BARRED, name)
                self.assertNotIn(word, dir(builtins), name)

    def test_module_level(self):
        for name, tree in self.trees():
            kinds = (ast.ImportFrom, ast.FunctionDef, ast.ClassDef, ast.Assign, ast.AnnAssign, ast.Expr)
            for node in tree.body:
                self.assertIsInstance(node, kinds, name)
                if isinstance(node, ast.Assign):
                    self.assertEqual(len(node.targets), 1, name)
                    self.assertFalse(any(isinstance(part, ast.Call) for part in ast.walk(node)), name)
                if isinstance(node, ast.Expr):
                    self.assertIsInstance(node.value, ast.Constant, name)

    def test_methods_are_known(self):
        own = set(METHODS) | {"__init__"}
        for _, tree in self.trees():
            own.update(node.name for node in ast.walk(tree) if isinstance(node, ast.FunctionDef))
        for name, tree in self.trees():
            for node in ast.walk(tree):
                if isinstance(node, ast.Call) and isinstance(node.func, ast.Attribute):
                    self.assertIn(node.func.attr, own, (name, node.lineno))

    def test_words(self):
        for path in sources():
            tree = ast.parse(path.read_text("ascii"))
            words = [node.id for node in ast.walk(tree) if isinstance(node, ast.Name)]
            words += [node.attr for node in ast.walk(tree) if isinstance(node, ast.Attribute)]
            for word in words:
                self.assertNotIn(word, BARRED, path.name)
            self.assertIsNone(re.search(r"\b_wall|_WallAttr|\t", path.read_text("ascii")), path.name)


if __name__ == "__main__":
    unittest.main()
