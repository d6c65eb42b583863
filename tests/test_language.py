"""The package keeps to the rules of LANGUAGE.md that can be seen by going through its files."""

import ast
import builtins
import pathlib
import re
import unittest

PACKAGE = pathlib.Path(__file__).resolve().parent.parent / "wholeamounts"

ERRORS = """Exception ValueError TypeError KeyError IndexError LookupError ZeroDivisionError ArithmeticError
OverflowError RuntimeError NotImplementedError AttributeError StopIteration""".split()
FREE_BUILTINS = """len range enumerate zip min max sum abs sorted reversed int str bool list tuple dict set
frozenset isinstance ord repr any all divmod""".split() + ERRORS
METHODS = """append clear copy count endswith extend find get index insert isalnum isalpha isdigit islower isspace
isupper items join keys ljust lower lstrip partition pop remove replace reverse rfind rjust rpartition rsplit rstrip
setdefault split splitlines startswith strip update upper values zfill bit_length""".split()
TWO_UNDERSCORES = ["__init__", "__eq__", "__repr__", "__str__", "__len__"]
NOT_AS_NAMES = """register mro elements open input version_info with_traceback add_note attrgetter breakpoint builtins
compile copyright credits delattr dir eval exec exit gc getattr globals hasattr help id importlib license locals
methodcaller os quit setattr super type vars sys format format_map""".split()
NOWHERE = re.compile(r"""\b(type|typing|typing_extensions|enum|Enum|IntEnum|StrEnum|Flag|IntFlag|Generic|Protocol|ABC
    |ABCMeta|namedtuple|NamedTuple|TypedDict|TYPE_CHECKING|abstractmethod)\b|dataclass|overload|contextmanager""",
                     re.VERBOSE)
NODES_OUT = (
    ast.With, ast.Delete, ast.Global, ast.Nonlocal, ast.Assert, ast.Yield, ast.YieldFrom, ast.AsyncFunctionDef,
    ast.AsyncFor, ast.AsyncWith, ast.Await, ast.SetComp, ast.DictComp, ast.GeneratorExp, ast.NamedExpr, ast.Starred,
    ast.Div, ast.MatMult, ast.Match, ast.AnnAssign, ast.Import, ast.Set)
TOP_NODES = (ast.Expr, ast.ImportFrom, ast.FunctionDef, ast.ClassDef, ast.Assign)


def sources():
    return {path: path.read_text(encoding="utf-8") for path in sorted(PACKAGE.rglob("*.py"))}


def trees():
    return {path: ast.parse(text) for path, text in sources().items()}


def nodes(kind):
    return [(path, node) for path, tree in trees().items() for node in ast.walk(tree) if isinstance(node, kind)]


def bound_names(tree):
    names = []
    for node in ast.walk(tree):
        if isinstance(node, (ast.FunctionDef, ast.ClassDef)):
            names.append(node.name)
        elif isinstance(node, ast.arg):
            names.append(node.arg)
        elif isinstance(node, ast.Name) and isinstance(node.ctx, ast.Store):
            names.append(node.id)
        elif isinstance(node, ast.ExceptHandler) and node.name:
            names.append(node.name)
    return names


class Files(unittest.TestCase):
    def test_only_plain_python_files(self):
        for path in PACKAGE.rglob("*"):
            if "__pycache__" not in path.parts:
                self.assertRegex(path.name, r"^([a-z][a-z0-9_]*|__init__)\.py$")
                self.assertNotIn(path.stem, dir(builtins))
                self.assertNotRegex(path.stem, r"^(test.*|site|conftest|sitecustomize|usercustomize)$")

    def test_signs_and_sizes(self):
        for path, text in sources().items():
            self.assertRegex(text, r"\A[ -~\n]*\Z", path)
            self.assertLessEqual(len(text.splitlines()), 400, path)
            for line in text.splitlines():
                self.assertLessEqual(len(line), 120, path)
        for path, node in nodes(ast.FunctionDef):
            self.assertLessEqual(node.end_lineno - node.lineno + 1, 40, (path, node.name))

    def test_words_that_stand_nowhere(self):
        for path, text in sources().items():
            self.assertIsNone(NOWHERE.search(text), path)


class Statements(unittest.TestCase):
    def test_nodes_that_are_out(self):
        for path, node in nodes(NODES_OUT):
            self.fail(f"{path}:{node.lineno}")

    def test_constants(self):
        for path, node in nodes(ast.Constant):
            self.assertIn(type(node.value), (int, str, bool, type(None)), path)
            if isinstance(node.value, str):
                self.assertNotIn("%", node.value, path)

    def test_loops_and_tries(self):
        for path, node in nodes((ast.For, ast.While)):
            self.assertEqual(node.orelse, [], (path, node.lineno))
        for path, node in nodes(ast.Try):
            self.assertEqual(node.finalbody, [], (path, node.lineno))
        for path, node in nodes(ast.Assign):
            self.assertEqual(len(node.targets), 1, (path, node.lineno))
        for path, node in nodes(ast.ListComp):
            self.assertEqual(len(node.generators), 1, (path, node.lineno))

    def test_functions(self):
        for path, node in nodes(ast.FunctionDef):
            self.assertEqual(node.decorator_list, [], path)
            self.assertIsNone(node.args.vararg, path)
            self.assertIsNone(node.args.kwarg, path)
            self.assertEqual(node.args.kwonlyargs, [], path)

    def test_is(self):
        for path, node in nodes(ast.Compare):
            if any(isinstance(sign, (ast.Is, ast.IsNot)) for sign in node.ops):
                self.assertIn(ast.unparse(node.comparators[0]), ("None", "True", "False"), path)

    def test_top(self):
        for path, tree in trees().items():
            names = []
            for node in tree.body:
                self.assertIsInstance(node, TOP_NODES, path)
                if isinstance(node, ast.Expr):
                    self.assertIsInstance(node.value, ast.Constant, path)
                if isinstance(node, ast.Assign):
                    ast.literal_eval(node.value)
                    names.append(node.targets[0].id)
                if isinstance(node, (ast.FunctionDef, ast.ClassDef)):
                    names.append(node.name)
                if isinstance(node, ast.ImportFrom):
                    names += [alias.name for alias in node.names]
            self.assertEqual(len(names), len(set(names)), path)


WALKED = ["zip", "enumerate", "reversed", "range", "items", "keys", "values"]
WALKERS = ["list", "tuple", "dict", "sorted", "sum", "any", "all", "enumerate", "zip", "min", "max", "join"]


def called_name(node):
    """The name of what is called, or nothing where it has none."""
    if not isinstance(node, ast.Call):
        return ""
    return getattr(node.func, "id", getattr(node.func, "attr", ""))


class Walks(unittest.TestCase):
    def test_walked_at_once(self):
        for path, tree in trees().items():
            for parent in ast.walk(tree):
                for child in ast.iter_child_nodes(parent):
                    if called_name(child) in WALKED:
                        self.assertTrue(self.is_walked(parent, child), (path, child.lineno))

    def is_walked(self, parent, child):
        if isinstance(parent, (ast.For, ast.comprehension)):
            return parent.iter is child
        if called_name(parent) in ("min", "max"):
            return len(parent.args) == 1
        if called_name(parent) == "zip":
            return child in parent.args
        return called_name(parent) in WALKERS and parent.args[0] is child

    def test_what_is_walked_is_not_changed(self):
        changing = ("append", "clear", "extend", "insert", "pop", "remove", "reverse", "setdefault", "update")
        for path, loop in nodes(ast.For):
            walked = [ast.unparse(node) for node in ast.walk(loop.iter) if isinstance(node, (ast.Name, ast.Attribute))]
            if not isinstance(loop.iter, (ast.Name, ast.Attribute)) and called_name(loop.iter) not in WALKED:
                continue
            for node in [inner for statement in loop.body for inner in ast.walk(statement)]:
                if isinstance(node, ast.Call) and isinstance(node.func, ast.Attribute) and node.func.attr in changing:
                    self.assertNotIn(ast.unparse(node.func.value), walked, (path, node.lineno))

    def test_sets_stand_where_they_may(self):
        for path, node in nodes(ast.Call):
            self.assertNotIn(called_name(node), ("set", "frozenset"), (path, node.lineno))


class Calls(unittest.TestCase):
    def test_keywords(self):
        free = {"sorted": ("key", "reverse"), "min": ("key", "default"), "max": ("key", "default"),
                "sum": ("start",), "enumerate": ("start",), "zip": ("strict",)}
        for path, node in nodes(ast.Call):
            for keyword in node.keywords:
                self.assertIn(keyword.arg, free.get(called_name(node), ()), (path, node.lineno))

    def test_powers(self):
        for path, node in nodes(ast.BinOp):
            self.assertNotIsInstance(node.op, ast.Pow, (path, node.lineno))

    def test_one_plain_target(self):
        for path, node in nodes((ast.Assign, ast.AugAssign)):
            targets = node.targets if isinstance(node, ast.Assign) else [node.target]
            for target in targets:
                self.assertIsInstance(target, (ast.Name, ast.Attribute, ast.Subscript), (path, node.lineno))

    def test_locals_are_not_called_like_classes_or_imports(self):
        for path, tree in trees().items():
            taken = [alias.name for node in tree.body if isinstance(node, ast.ImportFrom) for alias in node.names]
            taken += [node.name for node in tree.body if isinstance(node, (ast.ClassDef, ast.FunctionDef))]
            for function in [node for node in ast.walk(tree) if isinstance(node, (ast.FunctionDef, ast.Lambda))]:
                for node in ast.walk(function):
                    if isinstance(node, ast.arg):
                        self.assertNotIn(node.arg, taken, (path, function.lineno))
                    if isinstance(node, ast.Name) and isinstance(node.ctx, ast.Store):
                        self.assertNotIn(node.id, taken, (path, node.lineno))


class Names(unittest.TestCase):
    def test_python_s_own(self):
        for path, node in nodes(ast.Name):
            if node.id in dir(builtins):
                self.assertIn(node.id, FREE_BUILTINS, (path, node.lineno))

    def test_bound(self):
        for path, tree in trees().items():
            for name in bound_names(tree):
                self.assertNotIn(name, dir(builtins), path)
                self.assertNotIn(name, NOT_AS_NAMES, path)
                if name not in TWO_UNDERSCORES:
                    self.assertRegex(name, r"^[A-Za-z][A-Za-z0-9_]*$", path)

    def test_methods(self):
        own = [node.name for _, owner in nodes(ast.ClassDef) for node in owner.body if isinstance(node, ast.FunctionDef)]
        stored = [node.attr for _, node in nodes(ast.Attribute) if isinstance(node.ctx, ast.Store)]
        self.assertEqual(set(own) & set(stored), set())
        for path, node in nodes(ast.Call):
            if isinstance(node.func, ast.Attribute):
                self.assertIn(node.func.attr, METHODS + own, (path, node.lineno))
        for path, node in nodes(ast.Attribute):
            self.assertNotIn(node.attr, NOT_AS_NAMES, (path, node.lineno))


class Imports(unittest.TestCase):
    def test_own_files_that_define_the_name(self):
        defined = {}
        for path, tree in trees().items():
            defined[f"wholeamounts.{path.stem}"] = [
                node.targets[0].id if isinstance(node, ast.Assign) else node.name
                for node in tree.body if isinstance(node, (ast.Assign, ast.FunctionDef, ast.ClassDef))]
        for path, node in nodes(ast.ImportFrom):
            self.assertEqual(node.level, 0, path)
            for alias in node.names:
                self.assertIn(alias.name, defined[node.module], path)
                self.assertIsNone(alias.asname, path)

    def test_no_circles(self):
        drawn = {path.stem: set() for path in sources()}
        for path, node in nodes(ast.ImportFrom):
            drawn[path.stem].add(node.module.split(".")[-1])
        while drawn:
            free = [name for name, others in drawn.items() if not others & set(drawn)]
            self.assertTrue(free, drawn)
            for name in free:
                drawn.pop(name)

    def test_every_import_is_used(self):
        for path, tree in trees().items():
            used = [node.id for node in ast.walk(tree) if isinstance(node, ast.Name)]
            for node in tree.body:
                if isinstance(node, ast.ImportFrom):
                    for alias in node.names:
                        self.assertIn(alias.name, used, path)


if __name__ == "__main__":
    unittest.main()
