"""The package keeps to its small part of Python: what of the rules can be seen in the files."""

import ast
import builtins
import pathlib
import re
import unittest

PACKAGE = pathlib.Path(__file__).resolve().parent.parent / "treefiltersdesk"
FILES = sorted(PACKAGE.glob("*.py"))
TREES = {path.stem: ast.parse(path.read_text()) for path in FILES}

STATEMENTS = (ast.Assign, ast.AugAssign, ast.If, ast.While, ast.For, ast.Return, ast.Break, ast.Continue, ast.Pass,
              ast.Raise, ast.Try, ast.Expr, ast.FunctionDef, ast.ClassDef, ast.ImportFrom)
EXPRESSIONS = (ast.Constant, ast.Name, ast.Attribute, ast.Subscript, ast.Slice, ast.Call, ast.BinOp, ast.BoolOp,
               ast.UnaryOp, ast.Compare, ast.IfExp, ast.List, ast.Tuple, ast.Dict, ast.ListComp, ast.Lambda,
               ast.JoinedStr, ast.FormattedValue)
OWN_OF_PYTHON = set(
    "len range enumerate zip min max sum abs sorted reversed int str bool list tuple dict set frozenset isinstance ord "
    "repr any all divmod Exception ValueError TypeError KeyError IndexError LookupError ZeroDivisionError "
    "ArithmeticError OverflowError RuntimeError NotImplementedError AttributeError StopIteration".split())
METHODS = set(
    "append clear copy count endswith extend find get index insert isalnum isalpha isdigit islower isspace isupper items "
    "join keys ljust lower lstrip partition pop remove replace reverse rfind rjust rpartition rsplit rstrip setdefault "
    "split splitlines startswith strip update upper values zfill bit_length".split())
# Words that stand nowhere but in remarks and docstrings, and words that are no names.
FORBIDDEN_WORDS = re.compile(
    r"\b(typing|typing_extensions|enum|Enum|IntEnum|StrEnum|Flag|IntFlag|Generic|Protocol|ABC|ABCMeta|namedtuple|NamedTuple|"
    r"TypedDict|TYPE_CHECKING|abstractmethod)\b|dataclass|overload|contextmanager")
FORBIDDEN_NAMES = set(
    "register mro elements open input version_info with_traceback add_note attrgetter breakpoint builtins compile copyright "
    "credits delattr dir eval exec exit gc getattr globals hasattr help id importlib license locals methodcaller os quit "
    "setattr super type vars sys chr format format_map".split())
INTERFACE = "check apply trace is_stable select count extract".split()


def functions_of(tree):
    """All functions and methods of a file."""
    return [node for node in ast.walk(tree) if isinstance(node, ast.FunctionDef)]


def own_methods():
    """The names of all methods of the package."""
    names = set()
    for tree in TREES.values():
        for node in ast.walk(tree):
            if isinstance(node, ast.ClassDef):
                names.update(part.name for part in node.body if isinstance(part, ast.FunctionDef))
    return names


def top_names(tree):
    """The names that are bound at a file's top, with the imported ones."""
    names = []
    for node in tree.body:
        if isinstance(node, (ast.FunctionDef, ast.ClassDef)):
            names.append(node.name)
        if isinstance(node, ast.Assign):
            names.extend(target.id for target in node.targets)
        if isinstance(node, ast.ImportFrom):
            names.extend(alias.name for alias in node.names)
    return names


def local_names(tree):
    """The names of all parameters and locals of a file."""
    names = set()
    for node in ast.walk(tree):
        if isinstance(node, ast.arg):
            names.add(node.arg)
        if isinstance(node, (ast.FunctionDef, ast.Lambda, ast.ListComp)):
            names.update(part.id for part in ast.walk(node) if isinstance(part, ast.Name) and isinstance(part.ctx, ast.Store))
        if isinstance(node, ast.ExceptHandler) and node.name:
            names.add(node.name)
    return names


class Files(unittest.TestCase):
    def test_nothing_else_lies_in_the_package(self):
        for path in PACKAGE.iterdir():
            self.assertTrue(path.name == "__pycache__" or re.fullmatch(r"[a-z][a-z0-9]*\.py|__init__\.py", path.name), path)
        self.assertIn("filters", TREES)

    def test_signs_and_sizes(self):
        for path in FILES:
            text = path.read_text()
            self.assertRegex(text, r"\A[ -~\n]*\Z")
            rows = text.split("\n")
            self.assertLessEqual(len(rows), 399, path)
            self.assertLessEqual(max(len(row) for row in rows), 120, path)
            for node in functions_of(TREES[path.stem]):
                self.assertLessEqual(node.end_lineno - node.lineno + 1, 40, node.name)

    def test_docstrings(self):
        for name, tree in TREES.items():
            self.assertTrue(ast.get_docstring(tree), name)
            for node in ast.walk(tree):
                if isinstance(node, (ast.FunctionDef, ast.ClassDef)) and node.name != "__init__":
                    self.assertTrue(ast.get_docstring(node), node.name)


class Imports(unittest.TestCase):
    def drawn(self, name):
        """The files that a file draws from."""
        found = []
        for node in TREES[name].body:
            if isinstance(node, ast.ImportFrom):
                self.assertEqual(node.level, 0)
                self.assertRegex(node.module, r"\Atreefiltersdesk\.[a-z]+\Z")
                source = node.module.split(".")[1]
                defined = [part.name for part in TREES[source].body if isinstance(part, (ast.FunctionDef, ast.ClassDef))]
                defined += [part.targets[0].id for part in TREES[source].body if isinstance(part, ast.Assign)]
                for alias in node.names:
                    self.assertIn(alias.name, defined)
                    self.assertIsNone(alias.asname)
                found.append(source)
        return found

    def test_from_the_files_that_define_the_names(self):
        for name in TREES:
            self.drawn(name)

    def test_no_circles(self):
        left = {name: set(self.drawn(name)) for name in TREES}
        while left:
            done = [name for name in left if not left[name] & set(left)]
            self.assertTrue(done, left)
            for name in done:
                del left[name]

    def test_imported_names_are_used(self):
        for name, tree in TREES.items():
            used = {node.id for node in ast.walk(tree) if isinstance(node, ast.Name)}
            for node in tree.body:
                if isinstance(node, ast.ImportFrom):
                    for alias in node.names:
                        self.assertIn(alias.name, used, name)

    def test_interface(self):
        for name, tree in TREES.items():
            defined = [node for node in tree.body if isinstance(node, (ast.FunctionDef, ast.ClassDef)) and node.name in INTERFACE]
            if name != "filters":
                self.assertEqual(defined, [], name)
        plain = {node.name: [part.arg for part in node.args.args] for node in TREES["filters"].body if isinstance(node, ast.FunctionDef)}
        self.assertEqual(plain["check"], ["program"])
        for name in ["apply", "trace", "is_stable"]:
            self.assertEqual(plain[name], ["program", "tree"])
        for name in ["select", "count", "extract"]:
            self.assertEqual(plain[name], ["selector", "tree"])


class Code(unittest.TestCase):
    def test_statements_and_expressions(self):
        for name, tree in TREES.items():
            for node in ast.walk(tree):
                if isinstance(node, ast.stmt):
                    self.assertIsInstance(node, STATEMENTS, (name, node.lineno))
                if isinstance(node, ast.expr):
                    self.assertIsInstance(node, EXPRESSIONS, (name, node.lineno))
                if isinstance(node, ast.Assign):
                    self.assertEqual(len(node.targets), 1)
                    self.assertIsInstance(node.targets[0], (ast.Name, ast.Attribute, ast.Subscript), (name, node.lineno))
                if isinstance(node, (ast.For, ast.While)):
                    self.assertEqual(node.orelse, [])
                if isinstance(node, ast.ListComp):
                    self.assertEqual(len(node.generators), 1)
                    self.assertLessEqual(len(node.generators[0].ifs), 1)
                if isinstance(node, ast.BinOp):
                    self.assertNotIsInstance(node.op, (ast.Div, ast.MatMult, ast.Pow))
                if isinstance(node, ast.Compare) and any(isinstance(op, (ast.Is, ast.IsNot)) for op in node.ops):
                    self.assertIsInstance(node.comparators[0], ast.Constant)
                if isinstance(node, ast.Try):
                    self.assertEqual(node.finalbody, [])
                    for handler in node.handlers:
                        self.assertIn(handler.type.id, [part.name for part in TREES["errors"].body[1:]])

    def test_functions_and_classes(self):
        for name, tree in TREES.items():
            for node in functions_of(tree):
                self.assertEqual(node.decorator_list + node.args.kwonlyargs + node.args.posonlyargs, [])
                for value in node.args.defaults:
                    self.assertIsInstance(value, ast.Constant)
                    self.assertNotIn(node.name, INTERFACE)
                self.assertIsNone(node.args.vararg or node.args.kwarg or node.returns)
                for part in node.args.args:
                    self.assertIsNone(part.annotation)
            for node in ast.walk(tree):
                if isinstance(node, ast.ClassDef):
                    self.assertIn(node, tree.body)
                    self.assertLessEqual(len(node.bases), 1)
                    for part in node.body[1:]:
                        self.assertIsInstance(part, ast.FunctionDef)

    def test_top_of_the_files(self):
        for name, tree in TREES.items():
            for node in tree.body[1:]:
                self.assertIsInstance(node, (ast.ImportFrom, ast.FunctionDef, ast.ClassDef, ast.Assign), name)
                if isinstance(node, ast.Assign):
                    for part in ast.walk(node.value):
                        self.assertNotIsInstance(part, (ast.List, ast.Call, ast.ListComp, ast.BinOp, ast.UnaryOp))
                        self.assertFalse(isinstance(part, ast.Dict) and part != node.value)
            names = top_names(tree)
            self.assertEqual(len(names), len(set(names)), name)

    def test_names(self):
        for name, tree in TREES.items():
            for used in local_names(tree) | set(top_names(tree)):
                self.assertRegex(used, r"\A[A-Za-z][A-Za-z0-9_]*\Z", name)
                self.assertNotIn(used, dir(builtins), name)
            self.assertEqual(local_names(tree) & set(top_names(tree)), set(), name)

    def test_used_names(self):
        for name, tree in TREES.items():
            known = local_names(tree) | set(top_names(tree)) | OWN_OF_PYTHON
            for node in ast.walk(tree):
                if isinstance(node, ast.Name):
                    self.assertIn(node.id, known, (name, node.lineno))

    def test_methods(self):
        own = own_methods()
        values = set()
        for name, tree in TREES.items():
            for node in ast.walk(tree):
                if isinstance(node, ast.Call) and isinstance(node.func, ast.Attribute):
                    self.assertIn(node.func.attr, METHODS | own, (name, node.lineno))
                if isinstance(node, ast.Attribute) and isinstance(node.ctx, ast.Store):
                    values.add(node.attr)
                if isinstance(node, ast.Call) and node.keywords:
                    self.assertIn(node.func.id, ("max", "min", "sorted", "sum", "enumerate", "zip"))
        self.assertEqual(values & own, set())
        for kind in (str, int, list, dict, set, bytes):
            self.assertEqual((values | own - {"__init__"}) & set(dir(kind)) - {"index", "count"}, set())

    def test_words_and_texts(self):
        for name, tree in TREES.items():
            docstrings = [ast.get_docstring(node, clean=False) for node in ast.walk(tree)
                          if isinstance(node, (ast.Module, ast.FunctionDef, ast.ClassDef))]
            for node in ast.walk(tree):
                if isinstance(node, ast.Constant) and isinstance(node.value, str):
                    self.assertNotIn("%", node.value, name)
                    if node.value not in docstrings:
                        self.assertNotRegex(node.value, FORBIDDEN_WORDS, name)
                if isinstance(node, ast.Constant):
                    self.assertNotIsInstance(node.value, (bytes, float))
                for used in [getattr(node, "id", None), getattr(node, "attr", None), getattr(node, "arg", None), getattr(node, "name", None)]:
                    if isinstance(used, str):
                        self.assertNotRegex(used, FORBIDDEN_WORDS, name)
                        self.assertNotIn(used, FORBIDDEN_NAMES, name)
