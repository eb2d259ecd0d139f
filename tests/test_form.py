"""The package's files keep to the part of Python that the program is written in (L1 to L28, as far as this sees)."""

import ast
import builtins
import pathlib
import re
import unittest

PACKAGE = pathlib.Path(__file__).resolve().parent.parent / "windowrow"
FILES = sorted(PACKAGE.glob("*.py"))

STATEMENTS = (
    ast.Module, ast.FunctionDef, ast.ClassDef, ast.Return, ast.Assign, ast.AugAssign, ast.If, ast.While, ast.For,
    ast.Break, ast.Continue, ast.Pass, ast.Raise, ast.Try, ast.ExceptHandler, ast.Expr, ast.ImportFrom, ast.alias,
    ast.arguments, ast.arg,
)
EXPRESSIONS = (
    ast.Constant, ast.List, ast.Tuple, ast.Dict, ast.Name, ast.Attribute, ast.Subscript, ast.Slice, ast.Call,
    ast.BinOp, ast.UnaryOp, ast.BoolOp, ast.Compare, ast.IfExp, ast.ListComp, ast.comprehension, ast.keyword,
    ast.operator, ast.unaryop, ast.boolop, ast.cmpop, ast.expr_context,
)
PYTHONS_OWN = (
    "len range enumerate zip min max sum abs sorted reversed int str bool list tuple dict set frozenset isinstance "
    "ord repr any all divmod"
).split()
METHODS = "append clear copy count extend find get index insert items keys pop remove reverse update values".split()
WORDS = re.compile(
    r"\b(type|typing|typing_extensions|enum|Enum|IntEnum|StrEnum|Flag|IntFlag|Generic|Protocol|ABC|ABCMeta|namedtuple"
    r"|NamedTuple|TypedDict|TYPE_CHECKING|abstractmethod)\b|dataclass|overload|contextmanager"
)


def each_file():
    """The name, the text and the tree of each of the package's files."""
    for path in FILES:
        text = path.read_text(encoding="utf-8")
        yield path.name, text, ast.parse(text)


def bound_names_of_top(part):
    """The names that one statement of a file's top defines; an import defines none."""
    if isinstance(part, (ast.FunctionDef, ast.ClassDef)):
        return [part.name]
    if isinstance(part, ast.Assign):
        return [target.id for target in part.targets]
    return []


def bound_names(tree):
    """Every name that the file binds: by a def, a class, an import, a parameter, an assignment, a loop."""
    found = []
    for node in ast.walk(tree):
        if isinstance(node, (ast.FunctionDef, ast.ClassDef, ast.alias)):
            found.append(node.name)
        if isinstance(node, ast.arg):
            found.append(node.arg)
        if isinstance(node, ast.Name) and isinstance(node.ctx, ast.Store):
            found.append(node.id)
    return found


class Form(unittest.TestCase):
    def test_files(self):
        names = [path.name for path in PACKAGE.iterdir() if path.name != "__pycache__"]
        self.assertIn("__init__.py", names)
        self.assertIn("windows.py", names)
        for name in names:
            self.assertRegex(name, r"^(__init__|[a-z][a-z0-9_]*)\.py$")

    def test_signs_and_words(self):
        for file, text, tree in each_file():
            with self.subTest(file=file):
                self.assertRegex(text, r"\A[ -~\n]*\Z")
                self.assertNotRegex(text, WORDS)

    def test_sizes(self):
        for file, text, tree in each_file():
            with self.subTest(file=file):
                self.assertLessEqual(len(text.splitlines()), 400)
                self.assertLessEqual(max(len(line) for line in text.splitlines()), 120)
                for node in ast.walk(tree):
                    if isinstance(node, ast.FunctionDef):
                        self.assertLessEqual(node.end_lineno - node.lineno + 1, 40, node.name)

    def test_imports_are_the_packages_own_and_from_where_they_are_defined(self):
        for file, text, tree in each_file():
            with self.subTest(file=file):
                for node in ast.walk(tree):
                    if isinstance(node, ast.ImportFrom):
                        self.assertEqual(node.level, 0)
                        package, module = node.module.split(".")
                        self.assertEqual(package, "windowrow")
                        there = ast.parse((PACKAGE / f"{module}.py").read_text(encoding="utf-8"))
                        defined = [name for part in there.body for name in bound_names_of_top(part)]
                        for name in node.names:
                            self.assertIn(name.name, defined)

    def test_statements_and_expressions(self):
        for file, text, tree in each_file():
            with self.subTest(file=file):
                for node in ast.walk(tree):
                    self.assertIsInstance(node, STATEMENTS + EXPRESSIONS)
                    self.assertNotIsInstance(node, (ast.Div, ast.MatMult))
                    if isinstance(node, ast.Constant):
                        self.assertIn(type(node.value), (int, str, bool, type(None)))
                    if isinstance(node, (ast.For, ast.While)):
                        self.assertEqual(node.orelse, [])
                    if isinstance(node, ast.Assign):
                        self.assertEqual(len(node.targets), 1)
                    if isinstance(node, ast.FunctionDef):
                        self.assertEqual(node.decorator_list, [])
                        self.assertIsNone(node.args.vararg or node.args.kwarg)

    def test_names(self):
        for file, text, tree in each_file():
            with self.subTest(file=file):
                bound = bound_names(tree)
                for name in bound:
                    self.assertRegex(name, r"^([A-Za-z][A-Za-z0-9_]*|__init__)$")
                    self.assertNotIn(name, dir(builtins))
                for node in ast.walk(tree):
                    if isinstance(node, ast.Name) and isinstance(node.ctx, ast.Load):
                        self.assertIn(node.id, bound + PYTHONS_OWN)

    def test_no_parameter_or_local_is_called_like_an_import_or_a_class(self):
        for file, text, tree in each_file():
            with self.subTest(file=file):
                nodes = list(ast.walk(tree))
                taken = [node.name for node in nodes if isinstance(node, (ast.alias, ast.ClassDef))]
                given = [node.arg for node in nodes if isinstance(node, ast.arg)]
                stored = [node.id for node in nodes if isinstance(node, ast.Name) and isinstance(node.ctx, ast.Store)]
                self.assertEqual([name for name in given + stored if name in taken], [])

    def test_each_name_is_bound_once_at_a_files_top(self):
        for file, text, tree in each_file():
            with self.subTest(file=file):
                names = [name for part in tree.body for name in bound_names_of_top(part)]
                names += [name.name for part in tree.body if isinstance(part, ast.ImportFrom) for name in part.names]
                self.assertEqual(len(names), len(set(names)))

    def test_no_two_files_draw_from_one_another(self):
        drawn = {}
        for file, text, tree in each_file():
            drawn[file] = [f"{part.module.split('.')[1]}.py" for part in tree.body if isinstance(part, ast.ImportFrom)]
        while drawn:
            free = [file for file in drawn if not any(other in drawn for other in drawn[file])]
            self.assertNotEqual(free, [], drawn)
            for file in free:
                del drawn[file]

    def test_methods(self):
        trees = [ast.parse(path.read_text(encoding="utf-8")) for path in FILES]
        own = [node.name for tree in trees for node in ast.walk(tree) if isinstance(node, ast.FunctionDef)]
        for file, text, tree in each_file():
            with self.subTest(file=file):
                for node in ast.walk(tree):
                    if isinstance(node, ast.Call) and isinstance(node.func, ast.Attribute):
                        self.assertIn(node.func.attr, METHODS + own)


if __name__ == "__main__":
    unittest.main()
