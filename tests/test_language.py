"""The rules of the language that can be seen in the package's own files."""

import ast
import builtins
import pathlib
import re
import unittest

PACKAGE = pathlib.Path(__file__).resolve().parent.parent / "bitsways"

BUILTINS = set(
    "len range enumerate zip min max sum abs sorted reversed int str bool list tuple dict set "
    "frozenset isinstance ord repr any all divmod Exception ValueError TypeError KeyError "
    "IndexError LookupError ZeroDivisionError ArithmeticError OverflowError RuntimeError "
    "NotImplementedError AttributeError StopIteration".split())
METHODS = set(
    "append clear copy count endswith extend find get index insert isalnum isalpha isdigit "
    "islower isspace isupper items join keys ljust lower lstrip partition pop remove replace "
    "reverse rfind rjust rpartition rsplit rstrip setdefault split splitlines startswith strip "
    "update upper values zfill bit_length".split())
UNUSED = set(
    "register mro elements open input version_info with_traceback add_note attrgetter breakpoint "
    "builtins compile copyright credits delattr dir eval exec exit gc getattr globals hasattr "
    "help id importlib license locals methodcaller os quit setattr super vars sys".split())
WORDS_OUT = re.compile(
    r"\b(type|typing|typing_extensions|enum|Enum|IntEnum|StrEnum|Flag|IntFlag|Generic|Protocol"
    r"|ABC|ABCMeta|namedtuple|NamedTuple|TypedDict|TYPE_CHECKING|abstractmethod)\b"
    r"|dataclass|overload|contextmanager")
NODES_OUT = (
    ast.AsyncFor, ast.AsyncFunctionDef, ast.AsyncWith, ast.AnnAssign, ast.Assert, ast.Await,
    ast.Delete, ast.DictComp, ast.Div, ast.GeneratorExp, ast.Global, ast.Import, ast.MatMult,
    ast.Match, ast.NamedExpr, ast.Nonlocal, ast.Set, ast.SetComp, ast.Starred, ast.TryStar,
    ast.With, ast.Yield, ast.YieldFrom)
PLAIN_NAME = re.compile(r"^[A-Za-z][A-Za-z0-9_]*$")


def files():
    return sorted(PACKAGE.glob("*.py"))


def tree_of(path):
    return ast.parse(path.read_text(encoding="ascii"))


def imports_of(tree):
    return [node for node in tree.body if isinstance(node, ast.ImportFrom)]


def defs_of(tree):
    return [node for node in tree.body if isinstance(node, (ast.FunctionDef, ast.ClassDef))]


def top_names(tree):
    """The names that a file binds itself, once for each time that it does."""
    found = [node.name for node in defs_of(tree)]
    for node in tree.body:
        if isinstance(node, ast.Assign):
            found.extend(target.id for target in node.targets)
    return found


def bound_inside(tree):
    """The names of parameters and of what is stored in functions."""
    found = [node.arg for node in ast.walk(tree) if isinstance(node, ast.arg)]
    top = {id(node) for statement in tree.body if isinstance(statement, ast.Assign)
           for node in ast.walk(statement)}
    for node in ast.walk(tree):
        if isinstance(node, ast.Name) and isinstance(node.ctx, ast.Store) and id(node) not in top:
            found.append(node.id)
        if isinstance(node, ast.ExceptHandler) and node.name:
            found.append(node.name)
    return found


class LanguageTest(unittest.TestCase):
    def on_each_file(self, check):
        for path in files():
            with self.subTest(file=path.name):
                check(path, tree_of(path))

    def test_files_and_signs(self):
        lying = [path for path in PACKAGE.iterdir() if path.name != "__pycache__"]
        self.assertEqual(sorted(lying), files())
        self.assertIn(PACKAGE / "__init__.py", lying)

        def check(path, tree):
            self.assertRegex(path.name, r"^([a-z][a-z0-9_]*|__init__)\.py$")
            text = path.read_bytes().decode("ascii")
            self.assertIsNone(re.search(r"[^ -~\n]", text))
            self.assertIsNone(WORDS_OUT.search(text))
        self.on_each_file(check)

    def test_size(self):
        def check(path, tree):
            lines = path.read_text().split("\n")
            self.assertLessEqual(len(lines), 399)
            self.assertLessEqual(max(len(line) for line in lines), 120)
            for node in ast.walk(tree):
                if isinstance(node, ast.FunctionDef):
                    self.assertLessEqual(node.end_lineno - node.lineno + 1, 40)
        self.on_each_file(check)

    def test_imports(self):
        def check(path, tree):
            for node in imports_of(tree):
                package, dot, file = node.module.partition(".")
                self.assertEqual((package, node.level), ("bitsways", 0))
                for alias in node.names:
                    self.assertIsNone(alias.asname)
                    self.assertIn(alias.name, top_names(tree_of(PACKAGE / (file + ".py"))))
        self.on_each_file(check)

    def test_no_two_files_draw_from_one_another(self):
        drawn = {"bitsways." + path.stem: [node.module for node in imports_of(tree_of(path))]
                 for path in files()}
        while drawn:
            free = [name for name in drawn if not set(drawn[name]) & set(drawn)]
            self.assertNotEqual(free, [], sorted(drawn))
            for name in free:
                del drawn[name]

    def test_top_of_a_file(self):
        def check(path, tree):
            self.assertIsNotNone(ast.get_docstring(tree))
            for node in tree.body[1:]:
                self.assertIsInstance(
                    node, (ast.ImportFrom, ast.FunctionDef, ast.ClassDef, ast.Assign))
            names = top_names(tree)
            names.extend(alias.name for node in imports_of(tree) for alias in node.names)
            self.assertEqual(len(names), len(set(names)))
        self.on_each_file(check)

    def test_values_at_the_top_of_a_file(self):
        def check(path, tree):
            functions = set()
            for node in tree.body[1:]:
                if isinstance(node, ast.FunctionDef):
                    functions.add(node.name)
                if isinstance(node, ast.Assign):
                    self.assertIsInstance(
                        node.value, (ast.Constant, ast.List, ast.Tuple, ast.Dict))
                    for each in list(ast.walk(node.value))[1:]:
                        self.assertIsInstance(
                            each, (ast.Constant, ast.Tuple, ast.Name, ast.Load))
                        if isinstance(each, ast.Name):
                            self.assertIn(each.id, functions)
        self.on_each_file(check)

    def test_what_is_walked_is_not_kept(self):
        walked = {"zip", "enumerate", "reversed", "range"}
        takers = walked | {"list", "tuple", "dict", "sorted", "sum", "any", "all", "min", "max"}

        def check(path, tree):
            right = []
            for node in ast.walk(tree):
                if isinstance(node, (ast.For, ast.comprehension)):
                    right.append(node.iter)
                if isinstance(node, ast.Call) and isinstance(node.func, ast.Name):
                    if node.func.id in takers:
                        right.extend(node.args[:1])
            for node in ast.walk(tree):
                if isinstance(node, ast.Call) and isinstance(node.func, ast.Name):
                    if node.func.id in walked:
                        self.assertIn(node, right)
        self.on_each_file(check)

    def test_the_interface_stands_in_its_own_file_alone(self):
        def check(path, tree):
            self.assertEqual("answers" in top_names(tree), path.name == "answer.py")
        self.on_each_file(check)

    def test_statements_and_expressions(self):
        def check(path, tree):
            for node in ast.walk(tree):
                self.assertNotIsInstance(node, NODES_OUT)
                if isinstance(node, ast.Expr) and node not in tree.body[:1]:
                    self.assertIsInstance(node.value, ast.Call)
                if isinstance(node, ast.Assign):
                    self.assertEqual(len(node.targets), 1)
                if isinstance(node, (ast.For, ast.While)):
                    self.assertEqual(node.orelse, [])
                if isinstance(node, ast.Constant):
                    self.assertIsInstance(node.value, (int, str, type(None)))
                    self.assertNotIn("%", str(node.value))
                if isinstance(node, ast.ListComp):
                    self.assertEqual(len(node.generators), 1)
                    self.assertLessEqual(len(node.generators[0].ifs), 1)
                if isinstance(node, ast.Try):
                    self.assertEqual(node.finalbody, [])
                if isinstance(node, (ast.FunctionDef, ast.ClassDef)):
                    self.assertEqual(node.decorator_list, [])
                if isinstance(node, ast.BinOp) and isinstance(node.op, ast.Pow):
                    self.assertIsInstance(node.right, ast.Constant)
        self.on_each_file(check)

    def test_names(self):
        def check(path, tree):
            imported = {alias.name for node in imports_of(tree) for alias in node.names}
            inside = set(bound_inside(tree))
            classes = {node.name for node in defs_of(tree) if isinstance(node, ast.ClassDef)}
            own = set(top_names(tree)) | imported | inside
            self.assertEqual(inside & (imported | classes), set())
            self.assertEqual(own & (set(dir(builtins)) | UNUSED), set())
            for name in own:
                self.assertRegex(name, PLAIN_NAME)
            for node in ast.walk(tree):
                if isinstance(node, ast.Name):
                    self.assertIn(node.id, own | BUILTINS)
        self.on_each_file(check)

    def test_methods_and_values(self):
        methods = set()
        values = set()
        used = set()
        for path in files():
            for node in ast.walk(tree_of(path)):
                if isinstance(node, ast.ClassDef):
                    methods.update(each.name for each in defs_of(node))
                if isinstance(node, ast.Attribute):
                    used.add(node.attr)
                    if isinstance(node.ctx, ast.Store):
                        values.add(node.attr)
        self.assertEqual(methods & values, set())
        self.assertEqual(used - methods - values - METHODS, set())
        theirs = {name for kind in (str, int, list, dict, set, bytes) for name in dir(kind)}
        self.assertEqual((methods | values) & theirs - {"__init__"}, set())


if __name__ == "__main__":
    unittest.main()
