"""The rules of the language that a look at the files can tell: sizes, characters, imports, names."""

import ast
import builtins
import re
import unittest
from pathlib import Path

PACKAGE = Path(__file__).resolve().parent.parent / "callwarrant"
FILES = sorted(path for path in PACKAGE.rglob("*") if "__pycache__" not in path.parts)
LIBRARY = {"heapq", "math", "itertools", "collections", "__future__"}
BUILTINS = set((
    "len range enumerate zip min max sum abs sorted reversed int str bool bytes list tuple dict set "
    "frozenset isinstance ord repr any all divmod pow map iter next super Exception ValueError "
    "TypeError KeyError IndexError LookupError ZeroDivisionError ArithmeticError OverflowError "
    "RuntimeError NotImplementedError AttributeError StopIteration NotImplemented"
).split())
METHODS = set((
    "append clear copy count endswith extend find get index insert isalnum isalpha isdigit islower "
    "isspace isupper items join keys ljust lower lstrip partition pop remove replace reverse rfind "
    "rjust rpartition rsplit rstrip setdefault split splitlines startswith strip update upper values "
    "zfill bit_length add discard"
).split())
WORDS = set((
    "type typing enum Enum Flag Generic Protocol ABC ABCMeta namedtuple NamedTuple TypedDict "
    "abstractmethod dataclass overload contextmanager"
).split())
BARRED = set("mro elements open input law version_info with_traceback add_note".split())


def trees():
    return [(path, ast.parse(path.read_text())) for path in FILES]


def names_in(tree):
    """All names of variables, functions, classes, parameters, keywords and attributes."""
    for node in ast.walk(tree):
        if isinstance(node, ast.Name):
            yield node.id
        elif isinstance(node, ast.Attribute):
            yield node.attr
        elif isinstance(node, ast.arg) or isinstance(node, ast.keyword) and node.arg:
            yield node.arg
        elif isinstance(node, (ast.FunctionDef, ast.ClassDef, ast.alias)):
            yield node.name


class Language(unittest.TestCase):

    def test_files(self):
        self.assertLessEqual(len(FILES), 100)
        for path in FILES:
            self.assertRegex(path.name, "^[a-z0-9_]+[.]py$")
            text = path.read_bytes().decode("ascii")
            self.assertRegex(text, r"\A[ -~\n]*\Z")
            lines = text.split("\n")
            self.assertLessEqual(len(lines), 400, path)
            self.assertLessEqual(max(len(line) for line in lines), 120, path)
        self.assertIn(PACKAGE / "__init__.py", FILES)

    def test_functions(self):
        for path, tree in trees():
            for node in ast.walk(tree):
                if isinstance(node, ast.FunctionDef):
                    self.assertLessEqual(node.end_lineno - node.lineno + 1, 40, node.name)

    def test_module_level(self):
        allowed = (ast.ImportFrom, ast.FunctionDef, ast.ClassDef, ast.Assign, ast.Expr)
        for path, tree in trees():
            bound = []
            for number, node in enumerate(tree.body):
                self.assertIsInstance(node, allowed, path)
                if isinstance(node, ast.Expr):
                    self.assertTrue(number == 0 and isinstance(node.value.value, str), path)
                elif isinstance(node, ast.Assign):
                    self.assertEqual(len(node.targets), 1)
                    bound.append(node.targets[0].id)
                elif isinstance(node, ast.ImportFrom):
                    bound.extend(alias.asname or alias.name for alias in node.names)
                else:
                    bound.append(node.name)
            self.assertEqual(len(bound), len(set(bound)), path)

    def test_imports(self):
        uses = {}
        for path, tree in trees():
            uses[path.stem] = set()
            for node in ast.walk(tree):
                self.assertNotIsInstance(node, ast.Import, path)
                if isinstance(node, ast.ImportFrom) and node.module not in LIBRARY:
                    package, _, file = node.module.partition(".")
                    self.assertEqual((package, node.level), ("callwarrant", 0))
                    uses[path.stem].add(file)
                    source = (PACKAGE / (file + ".py")).read_text()
                    for alias in node.names:
                        pattern = "^(def |class )?" + alias.name + "[ (:]"
                        self.assertTrue(re.search(pattern, source, re.M), alias.name)
        while uses:
            ends = [file for file in uses if not uses[file] & set(uses)]
            self.assertTrue(ends, "files import each other in a circle")
            for file in ends:
                del uses[file]

    def test_names(self):
        for path, tree in trees():
            defined = {
                node.name for node in tree.body if isinstance(node, (ast.FunctionDef, ast.ClassDef))}
            for name in names_in(tree):
                self.assertNotIn(name, BARRED, path)
                self.assertRegex(name, "^(_?[A-Za-z][A-Za-z0-9_]*|_|__[a-z]+__)$", path)
                if hasattr(builtins, name) and not name.startswith("__"):
                    self.assertIn(name, BUILTINS, path)
                    self.assertNotIn(name, defined, path)

    def test_values(self):
        for path, tree in trees():
            for node in ast.walk(tree):
                self.assertNotIsInstance(node, (ast.Div, ast.AsyncFunctionDef, ast.Await), path)
                if isinstance(node, ast.Constant):
                    self.assertNotIsInstance(node.value, (float, complex), path)
                    if isinstance(node.value, str):
                        self.assertNotIn("%", node.value, path)

    def test_methods(self):
        own = {
            node.name for _, tree in trees() for found in ast.walk(tree)
            if isinstance(found, ast.ClassDef) for node in found.body
            if isinstance(node, ast.FunctionDef)}
        assigned = {
            node.attr for _, tree in trees() for node in ast.walk(tree)
            if isinstance(node, ast.Attribute) and isinstance(node.ctx, ast.Store)}
        self.assertEqual(own & assigned, set())
        # The document gives a link a method copy.
        self.assertEqual((own | assigned) & METHODS, {"copy"})
        for path, tree in trees():
            called = {
                node.func for node in ast.walk(tree)
                if isinstance(node, ast.Call) and isinstance(node.func, ast.Attribute)}
            for node in ast.walk(tree):
                if isinstance(node, ast.Attribute):
                    self.assertIn(node.attr, own | METHODS if node in called else assigned, path)

    def test_sets(self):
        # A set is only measured or sorted where it is made.
        for path, tree in trees():
            fitting = [
                argument for node in ast.walk(tree)
                if isinstance(node, ast.Call) and isinstance(node.func, ast.Name)
                and node.func.id in ("len", "sorted") for argument in node.args]
            for node in ast.walk(tree):
                is_set = isinstance(node, (ast.Set, ast.SetComp)) or isinstance(node, ast.Call) and (
                    isinstance(node.func, ast.Name) and node.func.id in ("set", "frozenset"))
                self.assertTrue(not is_set or node in fitting, (path, node.lineno if is_set else 0))
                self.assertNotIsInstance(node, (ast.GeneratorExp, ast.Yield, ast.With))

    def test_global_names(self):
        # Each stands in the first line of a function, and is a plain value of its file alone.
        for path, tree in trees():
            plain = [
                node.targets[0].id for node in tree.body
                if isinstance(node, ast.Assign) and isinstance(node.value, ast.Constant)]
            firsts = []
            for node in ast.walk(tree):
                if isinstance(node, ast.FunctionDef):
                    has_docstring = isinstance(node.body[0], ast.Expr)
                    firsts.append(node.body[1 if has_docstring else 0])
            for node in ast.walk(tree):
                if isinstance(node, ast.Global):
                    self.assertIn(node, firsts)
                    for name in node.names:
                        self.assertIn(name, plain)
                        for other, text in [(one, one.read_text()) for one in FILES if one != path]:
                            self.assertNotIn(name, text, other)

    def test_local_names(self):
        # No parameter and no local variable has the name of an import or a class of the file.
        for path, tree in trees():
            taken = {node.name for node in tree.body if isinstance(node, ast.ClassDef)}
            for node in tree.body:
                if isinstance(node, ast.ImportFrom):
                    taken.update(alias.name for alias in node.names)
            for node in ast.walk(tree):
                if isinstance(node, ast.arg):
                    self.assertNotIn(node.arg, taken, path)
                if isinstance(node, ast.Name) and isinstance(node.ctx, ast.Store):
                    self.assertNotIn(node.id, taken, path)

    def test_iterated_at_once(self):
        # What goes over something is gone over where it stands.
        makers = ("range", "zip", "enumerate", "reversed")
        views = ("items", "keys", "values")
        for path, tree in trees():
            fitting = []
            for node in ast.walk(tree):
                if isinstance(node, (ast.For, ast.comprehension)):
                    fitting.append(node.iter)
                if isinstance(node, ast.Call) and isinstance(node.func, ast.Name):
                    fitting.extend(node.args[:1])
            for node in ast.walk(tree):
                if isinstance(node, ast.Call):
                    name = node.func.id if isinstance(node.func, ast.Name) else ""
                    method = node.func.attr if isinstance(node.func, ast.Attribute) else ""
                    if name in makers or method in views:
                        self.assertIn(node, fitting, (path, node.lineno))
                    for argument in node.args:
                        self.assertNotIsInstance(argument, ast.Starred, (path, node.lineno))

    def test_words(self):
        for path, tree in trees():
            self.assertFalse(WORDS & set(names_in(tree)), path)

    def test_interface(self):
        listed = {
            "forms": ("is_module", "is_expression"),
            "reading": ("parse", "parse_expression"),
            "printing": ("printed", "printed_expression"),
            "worlds": ("is_world", "view", "fault", "is_lawful"),
            "orders": ("under", "above", "fields_of", "class_names", "concrete"),
            "calls": ("methods_of", "applicable", "best", "chain"),
            "closing": ("answers", "is_closed", "breach"),
            "trees": ("tree", "walk"),
            "checking": ("tree_holds",),
            "tables": ("groups", "tells_apart", "table"),
            "straights": ("sites", "straight", "bend"),
            "types": ("type_at", "type_of"),
            "running": ("run", "class_of", "shown"),
            "coding": ("code_of", "run_codes", "straight_count"),
        }
        methods = (
            "load", "unload", "names", "world", "choose", "run", "code", "copy", "__eq__", "__len__", "__contains__",
            "__init__")
        told = {path.stem: tree for path, tree in trees()}
        for file, names in listed.items():
            defined = [node.name for node in told[file].body if isinstance(node, ast.FunctionDef)]
            for name in names:
                self.assertIn(name, defined)
        (link,) = [node for node in told["links"].body if isinstance(node, ast.ClassDef)]
        self.assertEqual(link.name, "Link")
        self.assertEqual({node.name for node in link.body if isinstance(node, ast.FunctionDef)}, set(methods))
