"""The form of the package: those rules of the language that a look at the source can check."""

import ast
import builtins
import unittest
from pathlib import Path

FOLDER = Path(__file__).resolve().parent.parent / "tensorworks"
FILES = sorted(FOLDER.glob("*.py"))
TREES = {path.stem: ast.parse(path.read_text(encoding="utf-8")) for path in FILES}

CALLED = set(
    "len range enumerate zip min max sum abs sorted reversed int str bool list tuple dict set isinstance ord repr "
    "any all divmod".split())
KEYWORDS = {
    "sorted": {"key", "reverse"}, "min": {"key", "default"}, "max": {"key", "default"},
    "Trainer": {"rate", "low", "high", "schedule", "machine", "weights"},
}
NAMED = CALLED | set("ValueError None True False __name__ property".split())
METHODS = set(
    "append clear copy count endswith extend find get index insert isalnum isalpha isdigit islower isspace isupper "
    "items join keys ljust lower lstrip partition pop remove replace reverse rfind rjust rpartition rsplit rstrip "
    "setdefault split splitlines startswith strip update upper values zfill bit_length isascii".split())
BARRED = set("mro elements open input law version_info with_traceback add_note register".split())
NOT_NAMES = set(
    "attrgetter breakpoint builtins compile copyright credits delattr dir eval exec exit gc getattr globals hasattr "
    "help id importlib license locals methodcaller os quit setattr super type vars sys".split())
# What values of Python's own have: an attribute may have no such name but these, a method none but METHODS and these.
BUILTIN = {name for kind in (str, int, list, dict, set, bytes) for name in dir(kind) if not name.startswith("__")}
FREE_ATTRIBUTES = set("count index title find get join lower upper split strip copy add".split())
BARRED_ATTRIBUTES = BUILTIN - FREE_ATTRIBUTES | {"args", "format", "format_map", "mro"}
FREE_METHODS = METHODS - {"isascii"} | {"add", "discard"}
LIBRARY = {"math": {"gcd"}, "itertools": {"permutations"}}
STATEMENTS = (
    ast.Assign, ast.AugAssign, ast.If, ast.While, ast.For, ast.Return, ast.Break, ast.Continue, ast.Pass, ast.Raise,
    ast.Try, ast.Expr, ast.FunctionDef, ast.ClassDef, ast.ImportFrom, ast.Delete,
)
EXPRESSIONS = (
    ast.Constant, ast.Name, ast.Attribute, ast.Subscript, ast.Slice, ast.Call, ast.BinOp, ast.UnaryOp, ast.BoolOp,
    ast.Compare, ast.IfExp, ast.Tuple, ast.List, ast.Dict, ast.ListComp, ast.DictComp, ast.JoinedStr,
    ast.FormattedValue, ast.Starred, ast.Lambda,
)


def bound_names(tree):
    """Return all names that a tree binds, with their nodes."""
    for node in ast.walk(tree):
        if isinstance(node, ast.Name) and isinstance(node.ctx, ast.Store):
            yield node.id
        elif isinstance(node, ast.arg):
            yield node.arg
        elif isinstance(node, (ast.FunctionDef, ast.ClassDef)):
            yield node.name
        elif isinstance(node, ast.Attribute) and isinstance(node.ctx, ast.Store):
            yield node.attr
        elif isinstance(node, ast.ExceptHandler) and node.name:
            yield node.name


def local_names(function):
    for node in ast.walk(function):
        if isinstance(node, ast.Name) and isinstance(node.ctx, ast.Store):
            yield node.id
        elif isinstance(node, ast.arg):
            yield node.arg


def functions_of(tree):
    return [node for node in ast.walk(tree) if isinstance(node, ast.FunctionDef)]


class Files(unittest.TestCase):
    def test_folder(self):
        names = [path.name for path in FOLDER.iterdir() if path.name != "__pycache__"]
        self.assertIn("__init__.py", names)
        for name in names:
            self.assertRegex(name, r"^(__init__|[a-z][a-z0-9_]*)\.py$")
            self.assertFalse(hasattr(builtins, name[:-3].strip("_")), name)

    def test_size_and_characters(self):
        for path in FILES:
            text = path.read_text(encoding="utf-8")
            lines = text.split("\n")
            self.assertLess(len(lines), 400, path.name)
            self.assertLessEqual(max(map(len, lines)), 120, path.name)
            self.assertTrue(all(sign == "\n" or " " <= sign <= "~" for sign in text), path.name)

    def test_functions(self):
        for name, tree in TREES.items():
            for function in functions_of(tree):
                self.assertLessEqual(function.end_lineno - function.lineno + 1, 40, (name, function.name))
                self.assertTrue(all(decorator.id == "property" for decorator in function.decorator_list))


class Imports(unittest.TestCase):
    def test_imports(self):
        for name, tree in TREES.items():
            for node in ast.walk(tree):
                self.assertNotIsInstance(node, ast.Import)
                if isinstance(node, ast.ImportFrom):
                    self.assertIn(node, tree.body)
                    self.check(node, name)

    def check(self, node, name):
        names = {alias.name for alias in node.names}
        self.assertTrue(all(alias.asname is None for alias in node.names), name)
        if node.module in LIBRARY:
            self.assertLessEqual(names, LIBRARY[node.module])
            return
        package, stem = node.module.split(".")
        self.assertEqual((package, node.level), ("tensorworks", 0))
        defined = set()
        for part in TREES[stem].body:
            if isinstance(part, (ast.FunctionDef, ast.ClassDef)):
                defined.add(part.name)
            elif isinstance(part, ast.Assign):
                defined.update(target.id for target in part.targets)
        self.assertLessEqual(names, defined, (name, stem))

    def test_all_are_used(self):
        for name, tree in TREES.items():
            used = {node.id for node in ast.walk(tree) if isinstance(node, ast.Name)}
            for node in tree.body:
                if isinstance(node, ast.ImportFrom):
                    self.assertLessEqual({alias.name for alias in node.names}, used, name)

    def test_no_circles(self):
        above = {name: set() for name in TREES}
        for name, tree in TREES.items():
            for node in tree.body:
                if isinstance(node, ast.ImportFrom) and node.module not in LIBRARY:
                    above[name].add(node.module.split(".")[1])
        while above:
            free = [name for name, needs in above.items() if not needs & set(above)]
            self.assertTrue(free, above)
            for name in free:
                del above[name]


class Names(unittest.TestCase):
    def test_names(self):
        for stem, tree in TREES.items():
            for name in bound_names(tree):
                special = name in ("__init__", "__len__")
                self.assertFalse(name.startswith("__") and not special, (stem, name))
                self.assertNotIn(name, BARRED, stem)
            for node in ast.walk(tree):
                if isinstance(node, ast.Name):
                    self.assertNotIn(node.id, NOT_NAMES, stem)

    def test_attributes(self):
        """A barred name is the name of a method that is called where it stands, and nothing else."""
        for stem, tree in TREES.items():
            called = [id(node.func) for node in ast.walk(tree) if isinstance(node, ast.Call)]
            for node in ast.walk(tree):
                if isinstance(node, ast.Attribute) and id(node) not in called:
                    self.assertNotIn(node.attr, BARRED_ATTRIBUTES, (stem, node.lineno))

    def test_methods(self):
        for stem, tree in TREES.items():
            for found in [node for node in ast.walk(tree) if isinstance(node, ast.ClassDef)]:
                for function in functions_of(found):
                    self.assertNotIn(function.name, BUILTIN - FREE_METHODS, (stem, function.lineno))

    def test_methods_and_attributes_differ(self):
        methods = {}
        stored = set()
        for tree in TREES.values():
            for node in ast.walk(tree):
                if isinstance(node, ast.Attribute) and isinstance(node.ctx, ast.Store):
                    stored.add(node.attr)
                if isinstance(node, ast.ClassDef):
                    for function in [part for part in node.body if isinstance(part, ast.FunctionDef)]:
                        methods.setdefault(function.name, set()).add(len(function.args.args))
        self.assertFalse(stored & set(methods))
        # The interface gives the device and the trainer a step of their own.
        several = {name for name, many in methods.items() if len(many) > 1}
        self.assertEqual(several, {"__init__", "step"})

    def test_no_name_twice(self):
        for stem, tree in TREES.items():
            names = []
            for node in tree.body:
                if isinstance(node, (ast.FunctionDef, ast.ClassDef)):
                    names.append(node.name)
                elif isinstance(node, ast.Assign):
                    names.extend(target.id for target in node.targets)
                elif isinstance(node, ast.ImportFrom):
                    names.extend(alias.name for alias in node.names)
            self.assertEqual(len(names), len(set(names)), stem)
            for name in names:
                self.assertFalse(hasattr(builtins, name), (stem, name))

    def test_locals(self):
        for stem, tree in TREES.items():
            taken = {node.name for node in tree.body if isinstance(node, ast.ClassDef)}
            for node in tree.body:
                if isinstance(node, ast.ImportFrom):
                    taken.update(alias.name for alias in node.names)
            for function in functions_of(tree):
                for name in local_names(function):
                    self.assertNotIn(name, taken, (stem, function.name))
                    self.assertFalse(hasattr(builtins, name), (stem, function.name, name))
                    self.assertNotIn(name, NOT_NAMES, stem)

    def test_names_are_defined(self):
        for stem, tree in TREES.items():
            known = set(bound_names(tree)) | NAMED
            for node in tree.body:
                if isinstance(node, ast.ImportFrom):
                    known.update(alias.name for alias in node.names)
            for node in ast.walk(tree):
                if isinstance(node, ast.Name):
                    self.assertIn(node.id, known, stem)
                if isinstance(node, ast.Name) and node.id == "_":
                    self.assertIsInstance(node.ctx, ast.Store)


class Code(unittest.TestCase):
    def test_statements_and_expressions(self):
        for stem, tree in TREES.items():
            for node in ast.walk(tree):
                if isinstance(node, ast.stmt):
                    self.assertIsInstance(node, STATEMENTS, (stem, node.lineno))
                if isinstance(node, ast.expr):
                    self.assertIsInstance(node, EXPRESSIONS, (stem, node.lineno))
                if isinstance(node, ast.Constant):
                    self.assertNotIsInstance(node.value, float)
                    if isinstance(node.value, str):
                        self.assertNotIn("%", node.value)
                if isinstance(node, ast.BinOp):
                    self.assertNotIsInstance(node.op, (ast.Div, ast.Pow, ast.MatMult), (stem, node.lineno))

    def test_calls(self):
        methods = set(METHODS)
        for tree in TREES.values():
            methods.update(function.name for function in functions_of(tree))
        for stem, tree in TREES.items():
            for node in ast.walk(tree):
                if isinstance(node, ast.Call):
                    self.assertIsInstance(node.func, (ast.Name, ast.Attribute), (stem, node.lineno))
                    allowed = KEYWORDS.get(getattr(node.func, "id", None), set())
                    self.assertLessEqual({word.arg for word in node.keywords}, allowed, (stem, node.lineno))
                    if isinstance(node.func, ast.Attribute):
                        self.assertIn(node.func.attr, methods, (stem, node.lineno))

    def test_catching(self):
        for stem, tree in TREES.items():
            for node in ast.walk(tree):
                if isinstance(node, ast.ExceptHandler):
                    self.assertIn(node.type.id, ("TensorError", "RuleError", "AuditError", "ProgramError"), (stem, node.lineno))

    def test_module_level(self):
        for stem, tree in TREES.items():
            for at, node in enumerate(tree.body):
                if isinstance(node, ast.Expr):
                    self.assertEqual(at, 0, stem)
                    self.assertIsInstance(node.value, ast.Constant)
                elif isinstance(node, ast.Assign):
                    self.assertEqual(len(node.targets), 1)
                    for part in ast.walk(node.value):
                        self.assertIsInstance(
                            part, (ast.Constant, ast.Tuple, ast.Dict, ast.Name, ast.Load, ast.UnaryOp, ast.USub), stem)
