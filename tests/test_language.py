"""The package keeps to its small part of Python: the rules that a reading of the files can see."""

import ast
import builtins
import pathlib
import re
import unittest

PACKAGE = pathlib.Path(__file__).resolve().parent.parent / "racelogs"

STATEMENTS = (
    ast.Assign, ast.AugAssign, ast.If, ast.While, ast.For, ast.Return, ast.Break, ast.Continue, ast.Pass, ast.Raise,
    ast.Try, ast.Expr, ast.FunctionDef, ast.ClassDef, ast.ImportFrom)
OUT = (
    ast.GeneratorExp, ast.SetComp, ast.DictComp, ast.NamedExpr, ast.Starred, ast.Yield, ast.YieldFrom, ast.Await,
    ast.Div, ast.MatMult)
OWN_NAMES = set("""
    len range enumerate zip min max sum abs sorted reversed int str bool list tuple dict set frozenset isinstance ord
    repr any all divmod Exception ValueError TypeError KeyError IndexError LookupError ZeroDivisionError
    ArithmeticError OverflowError RuntimeError NotImplementedError AttributeError StopIteration""".split())
METHODS = set("""
    append clear copy count endswith extend find get index insert isalnum isalpha isdigit islower isspace isupper items
    join keys ljust lower lstrip partition pop remove replace reverse rfind rjust rpartition rsplit rstrip setdefault
    split splitlines startswith strip update upper values zfill bit_length""".split())
WORDS_OUT = """
    type typing typing_extensions enum Enum IntEnum StrEnum Flag IntFlag Generic Protocol ABC ABCMeta namedtuple
    NamedTuple TypedDict TYPE_CHECKING abstractmethod""".split()
NAMES_OUT = set("""
    register mro elements open input version_info with_traceback add_note format format_map attrgetter breakpoint
    builtins compile copyright credits delattr dir eval exec exit gc getattr globals hasattr help id importlib license
    locals methodcaller os quit setattr super vars sys chr print""".split())
MAGIC = {"__init__", "__eq__", "__repr__", "__str__", "__len__"}


def files():
    return sorted(path for path in PACKAGE.iterdir() if path.name != "__pycache__")


def own_methods(trees):
    return {
        part.name for tree in trees for node in ast.walk(tree) if isinstance(node, ast.ClassDef)
        for part in node.body if isinstance(part, ast.FunctionDef)}


def values_given(trees):
    return {
        node.attr for tree in trees for node in ast.walk(tree)
        if isinstance(node, ast.Attribute) and isinstance(node.ctx, ast.Store)}


def names_bound(tree):
    for node in ast.walk(tree):
        if isinstance(node, ast.Name) and isinstance(node.ctx, ast.Store):
            yield node.id
        elif isinstance(node, ast.arg):
            yield node.arg
        elif isinstance(node, (ast.FunctionDef, ast.ClassDef)):
            yield node.name


class TestFiles(unittest.TestCase):
    def test_the_folder_holds_plain_files_alone(self):
        for path in files():
            self.assertRegex(path.name, r"^[a-z0-9_]+\.py$")
        self.assertIn("__init__.py", [path.name for path in files()])

    def test_signs_and_sizes(self):
        for path in files():
            text = path.read_bytes().decode("ascii")
            self.assertIsNone(re.search(r"[^ -~\n]", text), path.name)
            rows = text.split("\n")
            self.assertLessEqual(len(rows), 400, path.name)
            self.assertLessEqual(max(len(row) for row in rows), 120, path.name)

    def test_words_that_stand_nowhere(self):
        for path in files():
            text = path.read_text()
            for word in WORDS_OUT:
                self.assertIsNone(re.search(r"\b%s\b" % word, text), (path.name, word))
            for word in ("dataclass", "overload", "contextmanager"):
                self.assertNotIn(word, text, path.name)


class TestTrees(unittest.TestCase):
    def setUp(self):
        self.trees = {path.name: ast.parse(path.read_text()) for path in files()}

    def nodes(self, *kinds):
        for name, tree in self.trees.items():
            for node in ast.walk(tree):
                if isinstance(node, kinds):
                    with self.subTest(file=name, line=getattr(node, "lineno", 0)):
                        yield node

    def test_imports(self):
        for node in self.nodes(ast.Import, ast.ImportFrom):
            self.assertIsInstance(node, ast.ImportFrom)
            self.assertEqual(node.level, 0)
            self.assertRegex(node.module, r"^racelogs\.[a-z_]+$")
            defined = [part.name for part in self.trees[node.module.split(".")[1] + ".py"].body
                       if isinstance(part, (ast.FunctionDef, ast.ClassDef))]
            for alias in node.names:
                self.assertIn(alias.name, defined)

    def test_the_top_of_a_module(self):
        for name, tree in self.trees.items():
            self.assertIsNotNone(ast.get_docstring(tree), name)
            for node in tree.body[1:]:
                self.assertIsInstance(node, (ast.ImportFrom, ast.FunctionDef, ast.ClassDef, ast.Assign), name)
                if isinstance(node, ast.Assign):
                    ast.literal_eval(node.value)

    def test_statements(self):
        for node in self.nodes(ast.stmt):
            self.assertIsInstance(node, STATEMENTS)
            if isinstance(node, ast.Assign):
                self.assertEqual(len(node.targets), 1)
                self.assertNotIsInstance(node.targets[0], (ast.Tuple, ast.List))
            if isinstance(node, (ast.For, ast.While)):
                self.assertEqual(node.orelse, [])
            if isinstance(node, ast.Expr) and not isinstance(node.value, ast.Call):
                self.assertIn(node, [tree.body[0] for tree in self.trees.values()])

    def test_expressions(self):
        for node in self.nodes(ast.AST):
            self.assertNotIsInstance(node, OUT)
            if isinstance(node, ast.Constant):
                self.assertIn(type(node.value), (int, str, bool, type(None)))
                self.assertNotIn("%", str(node.value))
            if isinstance(node, ast.ListComp):
                self.assertEqual(len(node.generators), 1)
                self.assertLessEqual(len(node.generators[0].ifs), 1)
            if isinstance(node, ast.Compare) and any(isinstance(op, (ast.Is, ast.IsNot)) for op in node.ops):
                self.assertIsInstance(node.comparators[-1], ast.Constant)

    def test_functions(self):
        for node in self.nodes(ast.FunctionDef):
            self.assertLessEqual(node.end_lineno - node.lineno + 1, 40)
            self.assertEqual(node.decorator_list, [])
            self.assertIsNone(node.args.vararg or node.args.kwarg)
            self.assertEqual(node.args.kwonlyargs + node.args.posonlyargs, [])

    def test_classes(self):
        for node in self.nodes(ast.ClassDef):
            self.assertEqual(node.decorator_list + node.keywords, [])
            self.assertLessEqual(len(node.bases), 1)
            for part in node.body:
                self.assertIsInstance(part, (ast.FunctionDef, ast.Pass))

    def test_names(self):
        own = set(dir(builtins))
        for name, tree in self.trees.items():
            classes_and_imports = {node.name for node in tree.body if isinstance(node, ast.ClassDef)}
            for node in tree.body:
                if isinstance(node, ast.ImportFrom):
                    classes_and_imports.update(alias.name for alias in node.names)
            for bound in names_bound(tree):
                with self.subTest(file=name, name=bound):
                    self.assertRegex(bound, r"^([A-Za-z][A-Za-z0-9_]*|__init__|__eq__|__repr__|__str__|__len__)$")
                    self.assertNotIn(bound, own | NAMES_OUT)
            for node in ast.walk(tree):
                if isinstance(node, ast.FunctionDef):
                    within = ast.Module(body=node.body, type_ignores=[])
                    bound = [arg.arg for arg in node.args.args] + list(names_bound(within))
                    self.assertEqual(classes_and_imports & set(bound), set())
                if isinstance(node, ast.Name) and node.id in own:
                    self.assertIn(node.id, OWN_NAMES, name)
                if isinstance(node, ast.Name):
                    self.assertNotIn(node.id, NAMES_OUT, name)

    def test_attributes_and_methods(self):
        trees = list(self.trees.values())
        methods, given = own_methods(trees), values_given(trees)
        self.assertEqual(methods & given, set())
        taken = set()
        for value in ("", 0, [], (), {}, set(), b""):
            taken.update(dir(value))
        self.assertEqual((methods | given) & taken - MAGIC, set())
        for node in self.nodes(ast.Attribute):
            self.assertIn(node.attr, methods | given | METHODS)
            self.assertNotIn(node.attr, NAMES_OUT)

    def test_what_is_walked_at_once(self):
        walked = []
        for node in self.nodes(ast.For, ast.comprehension, ast.Call):
            walked += node.args if isinstance(node, ast.Call) else [node.iter]
        for node in self.nodes(ast.Call):
            if isinstance(node.func, ast.Name) and node.func.id in ("zip", "enumerate", "reversed", "range"):
                self.assertIn(node, walked)


if __name__ == "__main__":
    unittest.main()
