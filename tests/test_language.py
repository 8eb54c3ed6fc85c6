"""The rules of LANGUAGE.md that a plain look at the package's files can hold."""

import ast
import builtins
import re
import unittest
from pathlib import Path

PACKAGE = Path(__file__).resolve().parent.parent / "roadlaid"

STATEMENTS = (ast.FunctionDef, ast.ClassDef, ast.ImportFrom, ast.Assign, ast.AugAssign, ast.If, ast.While, ast.For,
              ast.Return, ast.Break, ast.Continue, ast.Pass, ast.Raise, ast.Try, ast.Expr)
NOT_USED = (ast.GeneratorExp, ast.SetComp, ast.DictComp, ast.NamedExpr, ast.Starred, ast.Div, ast.Yield, ast.Await)
BUILT_IN = """len range enumerate zip min max sum abs sorted reversed int str bool list tuple dict set frozenset
    isinstance ord repr any all divmod Exception ValueError TypeError KeyError IndexError LookupError
    ZeroDivisionError ArithmeticError OverflowError RuntimeError NotImplementedError AttributeError
    StopIteration""".split()
SPECIAL = ("__init__", "__eq__", "__repr__", "__str__", "__len__")
WORDS = re.compile(r"\b(type|typing|typing_extensions|enum|Enum|IntEnum|StrEnum|Flag|IntFlag|Generic|Protocol|ABC"
                   r"|ABCMeta|namedtuple|NamedTuple|TypedDict|TYPE_CHECKING|abstractmethod)\b"
                   r"|dataclass|overload|contextmanager")


def files():
    return [path for path in sorted(PACKAGE.rglob("*")) if "__pycache__" not in path.parts]


def nodes():
    for path in files():
        for node in ast.walk(ast.parse(path.read_text())):
            yield f"{path.name}:{getattr(node, 'lineno', 0)}", node


def names_bound(node):
    if isinstance(node, (ast.FunctionDef, ast.ClassDef)):
        return [node.name]
    if isinstance(node, ast.arg):
        return [node.arg]
    if isinstance(node, ast.Attribute):
        return [node.attr]
    return [node.id] if isinstance(node, ast.Name) else []


def parsed():
    for path in files():
        yield path.name, ast.parse(path.read_text())


def locals_of(function):
    """The parameters and locals of a function, and of the comprehensions and functions within it."""
    for node in ast.walk(function):
        if isinstance(node, ast.arg):
            yield node.arg
        if isinstance(node, ast.Name) and isinstance(node.ctx, ast.Store):
            yield node.id


def names_at_the_top(tree):
    """The classes and imports of a file."""
    for node in tree.body:
        if isinstance(node, ast.ClassDef):
            yield node.name
        if isinstance(node, ast.ImportFrom):
            yield from [alias.asname or alias.name for alias in node.names]


class Language(unittest.TestCase):
    def test_files_and_signs(self):
        self.assertIn(PACKAGE / "__init__.py", files())
        for path in files():
            with self.subTest(path=path.name):
                self.assertRegex(path.name, r"\A[a-z0-9_]+\.py\Z")
                text = path.read_text()
                self.assertRegex(text, r"\A[ -~\n]*\Z")
                self.assertIsNone(WORDS.search(text))
                rows = text.splitlines()
                self.assertLessEqual(len(rows), 400)
                self.assertLessEqual(max(map(len, rows)), 120)

    def test_statements_and_expressions(self):
        for place, node in nodes():
            with self.subTest(place=place):
                self.assertNotIsInstance(node, NOT_USED)
                if isinstance(node, ast.stmt):
                    self.assertIsInstance(node, STATEMENTS)
                if isinstance(node, ast.Constant) and node.value is not None:
                    self.assertIn(type(node.value), (int, str, bool))

    def test_functions(self):
        for place, node in nodes():
            if isinstance(node, ast.FunctionDef):
                with self.subTest(place=place):
                    self.assertLessEqual(node.end_lineno - node.lineno + 1, 40)
                    self.assertEqual(node.decorator_list, [])
                    self.assertIsNone(node.args.vararg or node.args.kwarg)

    def test_imports_are_the_package_s_own(self):
        for place, node in nodes():
            if isinstance(node, ast.ImportFrom):
                with self.subTest(place=place):
                    self.assertEqual(node.level, 0)
                    self.assertRegex(node.module, r"\Aroadlaid\.[a-z0-9_]+\Z")

    def test_no_two_files_draw_from_one_another(self):
        drawn = {}
        for name, tree in parsed():
            drawn[name] = {node.module.split(".")[-1] + ".py" for node in tree.body
                           if isinstance(node, ast.ImportFrom)}
        while drawn:
            ready = [name for name in drawn if not drawn[name] & set(drawn)]
            self.assertNotEqual(ready, [], f"these draw from one another: {sorted(drawn)}")
            for name in ready:
                drawn.pop(name)

    def test_each_import_is_from_the_file_that_defines_it_and_is_used(self):
        trees = dict(parsed())
        for place, tree in trees.items():
            for node in tree.body:
                if isinstance(node, ast.ImportFrom):
                    defined = {name for top in trees[node.module.split(".")[-1] + ".py"].body
                               for target in getattr(top, "targets", [top]) for name in names_bound(target)}
                    used = {name.id for name in ast.walk(tree) if isinstance(name, ast.Name)}
                    with self.subTest(place=place, module=node.module):
                        self.assertLessEqual({alias.name for alias in node.names}, defined & used)

    def test_no_local_is_called_like_a_class_or_an_import(self):
        for place, tree in parsed():
            for node in ast.walk(tree):
                if isinstance(node, ast.FunctionDef):
                    with self.subTest(place=place, function=node.name):
                        self.assertEqual(set(locals_of(node)) & set(names_at_the_top(tree)), set())

    def test_no_name_is_both_a_method_and_a_value(self):
        methods, given = set(), set()
        for place, node in nodes():
            if isinstance(node, ast.ClassDef):
                methods |= {row.name for row in node.body if isinstance(row, ast.FunctionDef)}
            if isinstance(node, ast.Attribute) and isinstance(node.ctx, ast.Store):
                given.add(node.attr)
        self.assertEqual(methods & given, set())

    def test_names(self):
        for place, node in nodes():
            for name in names_bound(node):
                with self.subTest(place=place, name=name):
                    self.assertTrue(name in SPECIAL or not name.startswith("_"))
                    if isinstance(node, (ast.arg, ast.Name)) and hasattr(builtins, name):
                        self.assertIn(name, BUILT_IN)
                        self.assertNotIsInstance(node, ast.arg)
                        self.assertIsInstance(node.ctx, ast.Load)


if __name__ == "__main__":
    unittest.main()
