"""The package keeps to the part of Python that it is written in; the rules that a walk of its files can see."""

import ast
import builtins
import pathlib
import re
import unittest

PACKAGE = pathlib.Path(__file__).resolve().parent.parent / "tallyhall"

STATEMENTS = (
    ast.Module, ast.FunctionDef, ast.ClassDef, ast.ImportFrom, ast.Assign, ast.AugAssign, ast.If, ast.While,
    ast.For, ast.Return, ast.Break, ast.Continue, ast.Pass, ast.Raise, ast.Try, ast.ExceptHandler, ast.Expr,
)
EXPRESSIONS = (
    ast.Constant, ast.Name, ast.Attribute, ast.Subscript, ast.Slice, ast.Call, ast.keyword, ast.List, ast.Tuple,
    ast.Dict, ast.BinOp, ast.UnaryOp, ast.BoolOp, ast.Compare, ast.IfExp, ast.Lambda, ast.ListComp,
    ast.comprehension, ast.JoinedStr, ast.FormattedValue, ast.arguments, ast.arg, ast.alias,
    ast.operator, ast.unaryop, ast.boolop, ast.cmpop, ast.expr_context,
)
BARRED = (ast.Div, ast.MatMult)
BUILT_IN = set(
    "len range enumerate zip min max sum abs sorted reversed int str bool list tuple dict set isinstance ord repr "
    "any all divmod Exception ValueError KeyError IndexError LookupError ZeroDivisionError ArithmeticError "
    "OverflowError RuntimeError NotImplementedError StopIteration".split())
METHODS = set(
    "append clear copy count endswith extend find get index insert isalnum isalpha isdigit islower isspace isupper "
    "items join keys ljust lower lstrip partition pop remove replace reverse rfind rjust rpartition rsplit rstrip "
    "setdefault split splitlines startswith strip update upper values zfill bit_length".split())
DUNDER_METHODS = ("__init__", "__eq__", "__repr__", "__str__", "__len__")
BARRED_WORDS = re.compile(
    r"\b(type|typing|typing_extensions|enum|Enum|IntEnum|StrEnum|Flag|IntFlag|Generic|Protocol|ABC|ABCMeta|"
    r"namedtuple|NamedTuple|TypedDict|TYPE_CHECKING|abstractmethod)\b|dataclass|overload|contextmanager")


def package_files():
    return sorted(path for path in PACKAGE.rglob("*") if path.is_file() and "__pycache__" not in path.parts)


def trees():
    return [ast.parse(path.read_text(encoding="utf-8"), str(path)) for path in package_files()]


def each_node():
    """Every node of every file, with a text that tells where it stands."""
    for path, tree in zip(package_files(), trees()):
        for node in ast.walk(tree):
            yield node, f"{path.name}, line {getattr(node, 'lineno', '?')}"


def imports_of(tree):
    """The modules that a file draws from, with the names that it draws."""
    return {node.module: [alias.name for alias in node.names] for node in tree.body if isinstance(node, ast.ImportFrom)}


def bound_names(tree):
    names = set()
    for node in ast.walk(tree):
        if isinstance(node, (ast.FunctionDef, ast.ClassDef)):
            names.add(node.name)
        elif isinstance(node, ast.Name) and isinstance(node.ctx, ast.Store):
            names.add(node.id)
        elif isinstance(node, ast.arg):
            names.add(node.arg)
        elif isinstance(node, ast.alias):
            names.add(node.asname or node.name)
        elif isinstance(node, ast.ExceptHandler) and node.name:
            names.add(node.name)
    return names


def bound_at_the_top(tree):
    names = set()
    for node in tree.body:
        if isinstance(node, (ast.FunctionDef, ast.ClassDef)):
            names.add(node.name)
        elif isinstance(node, ast.Assign):
            names.add(node.targets[0].id)
    return names


class Language(unittest.TestCase):
    def test_the_files(self):
        names = [path.name for path in package_files()]
        self.assertIn("__init__.py", names)
        self.assertIn("errors.py", names)
        for name in names:
            self.assertRegex(name, r"\A(__init__|__main__|[a-z][a-z0-9_]*)\.py\Z")

    def test_signs_words_and_size(self):
        for path in package_files():
            text = path.read_text(encoding="utf-8")
            with self.subTest(file=path.name):
                self.assertRegex(text, r"\A[\n -~]*\Z")
                self.assertIsNone(BARRED_WORDS.search(text))
                self.assertLessEqual(len(text.splitlines()), 400)
                self.assertLessEqual(max(len(line) for line in text.splitlines()), 120)

    def test_kinds_of_nodes(self):
        for node, where in each_node():
            self.assertIsInstance(node, STATEMENTS + EXPRESSIONS, where)
            self.assertNotIsInstance(node, BARRED, where)
            if isinstance(node, ast.Constant):
                self.assertIn(type(node.value), (int, str, bool, type(None)), where)
            if isinstance(node, ast.Assign):
                self.assertEqual(len(node.targets), 1, where)
            if isinstance(node, (ast.For, ast.While)):
                self.assertEqual(node.orelse, [], where)
            if isinstance(node, ast.ListComp):
                self.assertEqual(len(node.generators), 1, where)
                self.assertLessEqual(len(node.generators[0].ifs), 1, where)

    def test_functions(self):
        for node, where in each_node():
            if isinstance(node, (ast.FunctionDef, ast.ClassDef)):
                self.assertEqual(node.decorator_list, [], where)
            if isinstance(node, ast.FunctionDef):
                self.assertLessEqual(node.end_lineno - node.lineno + 1, 40, where)
                self.assertIsNone(node.args.vararg, where)
                self.assertIsNone(node.args.kwarg, where)
                self.assertEqual(node.args.kwonlyargs + node.args.posonlyargs, [], where)

    def test_names(self):
        for tree in trees():
            bound = bound_names(tree)
            self.assertEqual(bound & set(dir(builtins)), set())
            for name in sorted(bound - set(DUNDER_METHODS)):
                self.assertRegex(name, r"\A[A-Za-z][A-Za-z0-9_]*\Z")
            for node in ast.walk(tree):
                if isinstance(node, ast.Name) and isinstance(node.ctx, ast.Load):
                    self.assertIn(node.id, bound | BUILT_IN)

    def test_methods(self):
        own = set()
        for node, _ in each_node():
            if isinstance(node, ast.ClassDef):
                own |= {child.name for child in node.body if isinstance(child, ast.FunctionDef)}
        for node, where in each_node():
            if isinstance(node, ast.Call) and isinstance(node.func, ast.Attribute):
                self.assertIn(node.func.attr, METHODS | own, where)

    def test_imports(self):
        files = {"tallyhall." + path.stem: tree for path, tree in zip(package_files(), trees())}
        for node, where in each_node():
            if isinstance(node, ast.ImportFrom):
                self.assertEqual(node.level, 0, where)
                self.assertIn(node.module, files, where)
        for module, tree in files.items():
            for drawn_from, names in imports_of(tree).items():
                self.assertEqual(set(names) - bound_at_the_top(files[drawn_from]), set(), module)

    def test_no_two_files_draw_from_one_another(self):
        files = {"tallyhall." + path.stem: imports_of(tree) for path, tree in zip(package_files(), trees())}
        done = []
        while len(done) < len(files):
            ready = [module for module in files if module not in done and set(files[module]) <= set(done)]
            self.assertNotEqual(ready, [], sorted(set(files) - set(done)))
            done.extend(ready)

    def test_no_local_is_called_like_an_import_or_a_class_of_its_file(self):
        for tree in trees():
            reserved = {name for names in imports_of(tree).values() for name in names}
            reserved |= {node.name for node in tree.body if isinstance(node, ast.ClassDef)}
            nodes = list(ast.walk(tree))
            stored = {node.id for node in nodes if isinstance(node, ast.Name) and isinstance(node.ctx, ast.Store)}
            stored |= {node.arg for node in nodes if isinstance(node, ast.arg)}
            self.assertEqual(stored & reserved, set())

    def test_classes(self):
        methods, values = set(), set()
        for node, where in each_node():
            if isinstance(node, ast.ClassDef):
                self.assertLessEqual(len(node.bases), 1, where)
                for child in node.body:
                    self.assertIsInstance(child, ast.FunctionDef, where)
                    methods.add(child.name)
            if isinstance(node, ast.Attribute) and isinstance(node.ctx, ast.Store):
                values.add(node.attr)
        self.assertEqual(methods & values, set())
        of_python = {name for kind in (str, int, list, tuple, dict, set, bytes) for name in dir(kind)}
        self.assertEqual((methods | values) & of_python - set(DUNDER_METHODS), set())


if __name__ == "__main__":
    unittest.main()
