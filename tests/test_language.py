"""The package keeps to its part of Python: what can be seen in the source of each file."""

import ast
import builtins
import functools
import pathlib
import re
import unittest

from helper import PARAMETERS

PACKAGE = pathlib.Path(__file__).resolve().parent.parent / "blocktrees"
SOURCES = {path.relative_to(PACKAGE.parent).as_posix(): path.read_text("utf-8")
           for path in sorted(PACKAGE.rglob("*.py"))}
TREES = {name: ast.parse(source) for name, source in SOURCES.items()}

ERRORS = """Exception ValueError TypeError KeyError IndexError LookupError ZeroDivisionError ArithmeticError
    OverflowError RuntimeError NotImplementedError AttributeError StopIteration""".split()
OWN_NAMES = """len range enumerate zip min max sum abs sorted reversed int str bool list tuple dict set frozenset
    isinstance ord repr any all divmod""".split() + ERRORS
METHODS = """append clear copy count endswith extend find get index insert isalnum isalpha isdigit islower isspace
    isupper items join keys ljust lower lstrip partition pop remove replace reverse rfind rjust rpartition rsplit
    rstrip setdefault split splitlines startswith strip update upper values zfill bit_length""".split()
WORDS = """type typing typing_extensions enum Enum IntEnum StrEnum Flag IntFlag Generic Protocol ABC ABCMeta
    namedtuple NamedTuple TypedDict TYPE_CHECKING abstractmethod""".split()
NOWHERE = "register mro elements open input version_info with_traceback add_note format format_map".split()
FORBIDDEN_VALUES = """items keys values pop update append clear extend insert remove reverse setdefault sort args
    encode format""".split()
STATEMENTS = (ast.Assign, ast.AugAssign, ast.If, ast.While, ast.For, ast.Return, ast.Break, ast.Continue, ast.Pass,
              ast.Raise, ast.Try, ast.FunctionDef, ast.ClassDef, ast.ImportFrom, ast.Expr)
FORBIDDEN = (ast.With, ast.Delete, ast.Global, ast.Nonlocal, ast.Assert, ast.Yield, ast.YieldFrom, ast.Await,
             ast.SetComp, ast.DictComp, ast.GeneratorExp, ast.NamedExpr, ast.Starred, ast.Div, ast.MatMult,
             ast.AnnAssign, ast.Import)
VIEWS = ["zip", "enumerate", "reversed", "range"]


def nodes(tree, *kinds):
    return [node for node in ast.walk(tree) if isinstance(node, kinds)]


def parameters(function):
    arguments = function.args
    return [each.arg for each in arguments.posonlyargs + arguments.args + arguments.kwonlyargs]


def bound_names(tree):
    names = [node.id for node in nodes(tree, ast.Name) if isinstance(node.ctx, ast.Store)]
    names += [node.name for node in nodes(tree, ast.FunctionDef, ast.ClassDef)]
    names += [node.name for node in nodes(tree, ast.ExceptHandler) if node.name]
    for function in nodes(tree, ast.FunctionDef, ast.Lambda):
        names += parameters(function)
    return names


def imported(tree):
    return [alias.asname or alias.name for node in nodes(tree, ast.ImportFrom) for alias in node.names]


def top_names(tree):
    names = [node.name for node in tree.body if isinstance(node, (ast.FunctionDef, ast.ClassDef))]
    return names + [node.targets[0].id for node in tree.body if isinstance(node, ast.Assign)]


def containers(tree):
    return [node.targets[0].id for node in tree.body
            if isinstance(node, ast.Assign) and isinstance(node.value, (ast.Dict, ast.List, ast.Tuple))]


def parents(tree):
    return {child: node for node in ast.walk(tree) for child in ast.iter_child_nodes(node)}


def for_each_file(method):
    @functools.wraps(method)
    def run(self):
        for name, tree in TREES.items():
            with self.subTest(file=name):
                method(self, name, tree)
    return run


class LanguageTest(unittest.TestCase):
    def test_only_plain_files(self):
        for path in PACKAGE.rglob("*"):
            if "__pycache__" in path.parts:
                continue
            self.assertTrue(path.is_dir() or path.suffix == ".py", path)
            self.assertRegex(path.stem, r"\A(__init__|__main__|[a-z][a-z0-9_]*)\Z")
            self.assertNotIn(path.stem, dir(builtins) + WORDS)
            self.assertNotRegex(path.stem, r"\A(test|tests|testing|test_.*|site|conftest|\w+customize)\Z")

    @for_each_file
    def test_signs_and_sizes(self, name, tree):
        self.assertRegex(SOURCES[name], r"\A[ -~\n]*\Z")
        lines = SOURCES[name].split("\n")
        self.assertLessEqual(len(lines), 400)
        self.assertLessEqual(max(len(line) for line in lines), 120)
        for function in nodes(tree, ast.FunctionDef):
            self.assertLessEqual(function.end_lineno - function.lineno + 1, 40, function.name)

    @for_each_file
    def test_words(self, name, tree):
        source = SOURCES[name]
        self.assertEqual([word for word in re.findall(r"\w+", source) if word in WORDS], [])
        self.assertNotRegex(source, "dataclass|overload|contextmanager")
        for escape in re.findall(r"\\.", source, re.DOTALL):
            self.assertIn(escape, ["\\n", "\\t", "\\\\", '\\"', "\\'"])

    @for_each_file
    def test_statements(self, name, tree):
        self.assertEqual([ast.unparse(node) for node in nodes(tree, *FORBIDDEN)], [])
        for node in nodes(tree, ast.stmt):
            self.assertIsInstance(node, STATEMENTS)
        for node in nodes(tree, ast.Assign):
            self.assertEqual(len(node.targets), 1)
        for node in nodes(tree, ast.For, ast.While):
            self.assertEqual(node.orelse, [])
        for node in nodes(tree, ast.Try):
            self.assertEqual(node.finalbody, [])
        for node in nodes(tree, ast.Expr):
            self.assertTrue(node is tree.body[0] or isinstance(node.value, ast.Call), ast.unparse(node))
        for node in nodes(tree, ast.ListComp):
            self.assertTrue(len(node.generators) == 1 and len(node.generators[0].ifs) <= 1)
        for node in nodes(tree, ast.Constant):
            self.assertNotIsInstance(node.value, (float, bytes, complex))
            if isinstance(node.value, str) and node is not getattr(tree.body[0], "value", None):
                self.assertNotIn("%", node.value)
        for node in nodes(tree, ast.Compare):
            for operator, value in zip(node.ops, node.comparators):
                if isinstance(operator, (ast.Is, ast.IsNot)):
                    self.assertIsInstance(value, ast.Constant)

    @for_each_file
    def test_tops(self, name, tree):
        self.assertIsNotNone(ast.get_docstring(tree))
        for node in tree.body[1:]:
            self.assertIsInstance(node, (ast.ImportFrom, ast.FunctionDef, ast.ClassDef, ast.Assign))
            if isinstance(node, ast.Assign):
                ast.literal_eval(node.value)
                self.assertEqual(len(nodes(node.value, ast.List, ast.Dict)),
                                 1 if isinstance(node.value, (ast.List, ast.Dict)) else 0)
        names = top_names(tree) + imported(tree)
        self.assertEqual(len(names), len(set(names)))

    @for_each_file
    def test_functions_and_classes(self, name, tree):
        for node in nodes(tree, ast.FunctionDef, ast.Lambda):
            self.assertIsNone(node.args.vararg or node.args.kwarg)
            self.assertEqual(node.args.kwonlyargs + node.args.posonlyargs, [])
        for node in nodes(tree, ast.FunctionDef, ast.ClassDef):
            self.assertEqual(node.decorator_list, [])
        for node in nodes(tree, ast.FunctionDef):
            self.assertIsNone(node.returns)
            self.assertEqual([each.arg for each in node.args.args if each.annotation], [])
        for node in nodes(tree, ast.ClassDef):
            self.assertIn(node, tree.body)
            self.assertLessEqual(len(node.bases), 1)
            self.assertTrue(all(isinstance(each, ast.FunctionDef) for each in node.body))
            methods = [each.name for each in node.body]
            self.assertEqual(len(methods), len(set(methods)))

    def test_imports(self):
        drawn = {}
        for name, tree in TREES.items():
            drawn[name] = []
            for node in nodes(tree, ast.ImportFrom):
                self.assertIn(node, tree.body)
                self.assertEqual(node.level, 0)
                source = node.module.replace(".", "/") + ".py"
                self.assertIn(source, TREES)
                drawn[name].append(source)
                for alias in node.names:
                    self.assertIsNone(alias.asname)
                    self.assertIn(alias.name, top_names(TREES[source]))
                    used = [each for each in nodes(tree, ast.Name) if each.id == alias.name]
                    self.assertNotEqual(used, [], alias.name)
        while drawn:
            free = [name for name, others in drawn.items() if not set(others) & set(drawn)]
            self.assertNotEqual(free, [], drawn)
            for name in free:
                del drawn[name]

    @for_each_file
    def test_names(self, name, tree):
        bound = bound_names(tree)
        for each in bound:
            if each != "__init__":
                self.assertRegex(each, r"\A[A-Za-z][A-Za-z0-9_]*\Z")
                self.assertNotIn(each, dir(builtins) + NOWHERE + WORDS)
        known = bound + imported(tree) + OWN_NAMES + ["True", "False", "None"]
        self.assertEqual([node.id for node in nodes(tree, ast.Name) if node.id not in known], [])
        outer = imported(tree) + [node.name for node in nodes(tree, ast.ClassDef)]
        outer += [each for each in top_names(tree)]
        for function in nodes(tree, ast.FunctionDef, ast.Lambda):
            stored = parameters(function) + [node.id for node in nodes(function, ast.Name)
                                             if isinstance(node.ctx, ast.Store)]
            self.assertEqual([each for each in stored if each in outer], [])

    def test_methods_and_values(self):
        methods, values = set(), set()
        for tree in TREES.values():
            for node in nodes(tree, ast.ClassDef):
                methods |= {each.name for each in node.body}
            values |= {node.attr for node in nodes(tree, ast.Attribute) if isinstance(node.ctx, ast.Store)}
        self.assertEqual(methods & values, set())
        self.assertEqual(values & set(FORBIDDEN_VALUES + NOWHERE), set())
        self.assertEqual(methods & set(NOWHERE), set())
        for tree in TREES.values():
            called = [node.func for node in nodes(tree, ast.Call)]
            for node in nodes(tree, ast.Attribute):
                known = values if node not in called else values | methods | set(METHODS)
                self.assertIn(node.attr, known)

    def test_what_files_hold_is_only_read(self):
        holders = [name for tree in TREES.values() for name in containers(tree)]
        for tree in TREES.values():
            above = parents(tree)
            for node in nodes(tree, ast.Name):
                if node.id in holders and isinstance(node.ctx, ast.Load):
                    parent = above[node]
                    copied = isinstance(parent, ast.Call) and parent.func.id in ("list", "tuple", "dict")
                    read = isinstance(parent, (ast.Subscript, ast.Compare, ast.For, ast.comprehension))
                    self.assertTrue(copied or read, ast.unparse(parent))

    @for_each_file
    def test_views_are_walked_at_once(self, name, tree):
        above = parents(tree)
        for node in nodes(tree, ast.Call):
            if isinstance(node.func, ast.Name) and node.func.id in VIEWS:
                parent = above[node]
                taken = isinstance(parent, ast.Call) and isinstance(parent.func, ast.Name) and parent.func.id in (
                    "list", "tuple", "dict", "sorted", "sum", "any", "all", "enumerate", "zip")
                self.assertTrue(taken or isinstance(parent, (ast.For, ast.comprehension)), ast.unparse(parent))

    def test_classes_and_handlers(self):
        classes = [node.name for tree in TREES.values() for node in nodes(tree, ast.ClassDef)]
        for tree in TREES.values():
            above = parents(tree)
            for node in nodes(tree, ast.Name):
                if node.id in classes:
                    parent = above[node]
                    call = isinstance(parent, ast.Call) and (parent.func is node or parent.func.id == "isinstance")
                    self.assertTrue(call or isinstance(parent, (ast.ClassDef, ast.ExceptHandler, ast.Attribute)))
            for node in nodes(tree, ast.ExceptHandler):
                self.assertIn(getattr(node.type, "id", None), classes + ["KeyError", "ZeroDivisionError"])
            for node in nodes(tree, ast.Raise):
                self.assertIn(node.exc.func.id, classes)

    @for_each_file
    def test_each_operation_stands_in_its_file_alone(self, name, tree):
        if name != "blocktrees/documents.py":
            self.assertEqual([each for each in top_names(tree) if each in PARAMETERS], [])
        written = {node.name: node.args for node in TREES["blocktrees/documents.py"].body if isinstance(node, ast.FunctionDef)}
        for operation, names in PARAMETERS.items():
            self.assertEqual([each.arg for each in written[operation].args], names)
            self.assertEqual(written[operation].defaults, [])


if __name__ == "__main__":
    unittest.main()
