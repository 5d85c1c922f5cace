"""Rules of the language subset that a look at the source can tell."""

import ast
import builtins
import unittest
from pathlib import Path

PACKAGE = Path(__file__).resolve().parent.parent / "widefills"
BUILTINS = """len range enumerate zip min max sum abs sorted reversed int str bool bytes list tuple dict set frozenset
    isinstance ord repr any all divmod iter next Exception ValueError TypeError KeyError IndexError LookupError
    ZeroDivisionError ArithmeticError OverflowError RuntimeError NotImplementedError NotImplemented property
    super object classmethod staticmethod""".split()
# A doctest of the same run gives builtins the name _.
ALL_BUILTINS = [name for name in dir(builtins) if name != "_"]
BARRED_NODES = (ast.Global, ast.AsyncFunctionDef, ast.GeneratorExp, ast.Yield, ast.YieldFrom, ast.Div, ast.Import,
                ast.Await, ast.Lambda)
METHODS = """append clear copy count endswith extend find get index insert isalnum isalpha isdigit islower isspace
    isupper items join keys ljust lower lstrip partition pop remove replace reverse rfind rjust rpartition rsplit
    rstrip setdefault split splitlines startswith strip update upper values zfill bit_length add discard""".split()


def sources():
    return sorted(PACKAGE.glob("*.py"))


def trees():
    return [(path.name, ast.parse(path.read_text())) for path in sources()]


def targets(node):
    return [part.id for part in ast.walk(node) if isinstance(part, ast.Name) and isinstance(part.ctx, ast.Store)]


class Language(unittest.TestCase):

    def test_files(self):
        for path in PACKAGE.iterdir():
            self.assertTrue(path.suffix == ".py" or path.name == "__pycache__", path)
            self.assertEqual(path.name, path.name.lower())

    def test_lines(self):
        for path in sources():
            text = path.read_text()
            self.assertTrue(all(sign == "\n" or " " <= sign <= "~" for sign in text), path)
            self.assertNotIn("%", "".join(line for line in text.split("\n") if '"' in line), path)
            lines = text.split("\n")
            self.assertLessEqual(len(lines), 399, path)
            self.assertLessEqual(max(map(len, lines)), 120, path)

    def test_functions_are_short(self):
        for name, tree in trees():
            for node in ast.walk(tree):
                if isinstance(node, ast.FunctionDef):
                    self.assertLessEqual(node.end_lineno - node.lineno + 1, 40, (name, node.name))

    def test_statements(self):
        for name, tree in trees():
            for node in ast.walk(tree):
                self.assertNotIsInstance(node, BARRED_NODES, (name, getattr(node, "lineno", 0)))
                if isinstance(node, ast.Constant):
                    self.assertNotIsInstance(node.value, (float, complex), name)
                if isinstance(node, ast.Set):
                    self.assertFalse([part for part in node.elts if isinstance(part, ast.Starred)], name)
            for node in tree.body:
                self.assertIsInstance(node, (ast.ImportFrom, ast.FunctionDef, ast.ClassDef, ast.Assign, ast.Expr), name)

    def test_imports(self):
        for name, tree in trees():
            for node in ast.walk(tree):
                if isinstance(node, ast.ImportFrom) and node.module == "heapq":
                    self.assertLessEqual({(alias.name, alias.asname) for alias in node.names},
                                         {("heappush", None), ("heappop", None)})
                elif isinstance(node, ast.ImportFrom):
                    self.assertEqual(node.level, 0)
                    self.assertTrue(node.module.startswith("widefills."), (name, node.module))
                    defined = dict(trees())[node.module.split(".")[1] + ".py"]
                    own = [part.name for part in defined.body if isinstance(part, (ast.FunctionDef, ast.ClassDef))]
                    own += [word for part in defined.body if isinstance(part, ast.Assign) for word in targets(part)]
                    for alias in node.names:
                        self.assertIn(alias.name, own, (name, node.module))

    def test_no_imports_in_a_ring(self):
        files = {name[:-3]: [node.module.split(".")[1] for node in ast.walk(tree)
                             if isinstance(node, ast.ImportFrom) and node.module.startswith("widefills.")]
                 for name, tree in trees()}
        done = []
        while len(done) < len(files):
            free = [name for name in files if name not in done and all(part in done for part in files[name])]
            self.assertTrue(free, sorted(set(files) - set(done)))
            done += free

    def test_names(self):
        """No name means two things: a builtin, an import or a class of the file, and a variable."""
        for name, tree in trees():
            imported = [alias.name for node in ast.walk(tree) if isinstance(node, ast.ImportFrom)
                        for alias in node.names]
            own = [node.name for node in tree.body if isinstance(node, (ast.FunctionDef, ast.ClassDef))]
            for node in ast.walk(tree):
                stored = targets(node) if isinstance(node, ast.FunctionDef) else []
                if isinstance(node, (ast.FunctionDef, ast.Lambda)):
                    stored += [argument.arg for argument in node.args.args]
                for word in stored:
                    self.assertNotIn(word, imported + own, name)
                    self.assertNotIn(word, ALL_BUILTINS, name)

    def test_calls(self):
        methods = [node.name for _, tree in trees() for node in ast.walk(tree) if isinstance(node, ast.FunctionDef)]
        for name, tree in trees():
            words = [node.id for node in ast.walk(tree) if isinstance(node, ast.Name)]
            for word in words:
                if word in ALL_BUILTINS:
                    self.assertIn(word, BUILTINS, name)
            for node in ast.walk(tree):
                if isinstance(node, ast.Call) and isinstance(node.func, ast.Attribute):
                    self.assertIn(node.func.attr, METHODS + methods + ["__init__"], (name, node.lineno))

    def test_properties(self):
        """No attribute, and no method of another kind, has the name of a property."""
        properties = {node.name for _, tree in trees() for node in ast.walk(tree) if isinstance(node, ast.FunctionDef)
                      and any(isinstance(mark, ast.Name) and mark.id == "property" for mark in node.decorator_list)}
        self.assertIn("names", properties)
        for name, tree in trees():
            for node in ast.walk(tree):
                if isinstance(node, ast.Attribute) and isinstance(node.ctx, ast.Store):
                    self.assertNotIn(node.attr, properties | {"keys", "items", "values", "args"}, name)
                if isinstance(node, ast.ClassDef):
                    own = [part for part in node.body if isinstance(part, ast.FunctionDef) and part.name in properties]
                    self.assertTrue(all(part.decorator_list for part in own), name)

    def test_beside_operators(self):
        """What a class with __getitem__ rules out elsewhere."""
        for name, tree in trees():
            for node in ast.walk(tree):
                if isinstance(node, ast.Call) and isinstance(node.func, ast.Name) and node.func.id == "reversed":
                    inner = node.args[0]
                    self.assertIn(inner.func.id, ("list", "tuple", "sorted", "range"), (name, node.lineno))
                if isinstance(node, ast.ClassDef):
                    methods = [part.name for part in node.body if isinstance(part, ast.FunctionDef)]
                    self.assertEqual("__getitem__" in methods, "__iter__" in methods, name)
                if isinstance(node, (ast.FunctionDef, ast.ClassDef)):
                    self.assertNotIn(node.name, ("keys", "items", "values", "register", "open", "input"), name)

    def test_errors_that_are_caught(self):
        """Own errors alone are caught, and raised on the spot."""
        errors = [part.name for part in dict(trees())["errors.py"].body if isinstance(part, ast.ClassDef)]
        for name, tree in trees():
            for node in ast.walk(tree):
                if isinstance(node, ast.ExceptHandler):
                    for part in ast.walk(node.type):
                        if isinstance(part, ast.Name):
                            self.assertIn(part.id, errors, (name, node.lineno))
                if isinstance(node, ast.Raise):
                    self.assertIsInstance(node.exc, ast.Call, (name, node.lineno))
                    self.assertIn(node.exc.func.id, errors + ["TypeError"], (name, node.lineno))

    def test_no_loop_changes_what_it_goes_over(self):
        for name, tree in trees():
            for node in ast.walk(tree):
                if isinstance(node, ast.For) and isinstance(node.iter, ast.Name):
                    for part in ast.walk(node):
                        if isinstance(part, ast.Call) and isinstance(part.func, ast.Attribute):
                            changed = part.func.value
                            self.assertFalse(isinstance(changed, ast.Name) and changed.id == node.iter.id
                                             and part.func.attr in ("append", "pop", "extend", "insert", "remove"),
                                             (name, node.lineno))


if __name__ == "__main__":
    unittest.main()
