"""The package keeps to the plain part of Python: what can be seen of it row by row."""

import ast
import pathlib
import re
import unittest

PACKAGE = pathlib.Path(__file__).resolve().parent.parent / "starsieve"

OUTSIDE = (
    ast.Import, ast.GeneratorExp, ast.NamedExpr, ast.With, ast.Match, ast.Global, ast.Nonlocal, ast.Yield,
    ast.YieldFrom, ast.Await, ast.AsyncFunctionDef, ast.AsyncFor, ast.AsyncWith, ast.Div, ast.MatMult,
)
WORDS = re.compile(
    r"\b(type|typing|typing_extensions|enum|Enum|IntEnum|StrEnum|Flag|IntFlag|Generic|Protocol|ABC|ABCMeta|namedtuple"
    r"|NamedTuple|TypedDict|TYPE_CHECKING|abstractmethod)\b|dataclass|overload|contextmanager"
)
NAMES = (
    "len range enumerate zip min max sum abs sorted reversed int str bool bytes list tuple dict set frozenset"
    " isinstance ord repr any all divmod Exception ValueError TypeError KeyError IndexError LookupError"
    " ZeroDivisionError ArithmeticError OverflowError RuntimeError NotImplementedError AttributeError"
    " StopIteration"
).split()
METHODS = ("__init__", "__eq__", "__repr__", "__str__", "__len__")


def sources():
    return [(path.name, path.read_text(encoding="utf-8")) for path in sorted(PACKAGE.glob("*.py"))]


def trees():
    return [(name, ast.parse(text)) for name, text in sources()]


class LanguageTest(unittest.TestCase):
    def test_only_plain_files(self):
        for path in PACKAGE.iterdir():
            if path.name != "__pycache__":
                self.assertRegex(path.name, r"^[a-z0-9_]+\.py$")

    def test_sizes_and_signs(self):
        for name, text in sources():
            rows = text.split("\n")
            self.assertLessEqual(len(rows), 400, name)
            for row in rows:
                self.assertLessEqual(len(row), 120, (name, row))
                self.assertRegex(row, r"^[ -~]*$", name)

    def test_words_that_stand_nowhere(self):
        for name, text in sources():
            self.assertIsNone(WORDS.search(text), name)

    def test_no_row_of_a_kind_outside(self):
        for name, tree in trees():
            for node in ast.walk(tree):
                self.assertNotIsInstance(node, OUTSIDE, (name, getattr(node, "lineno", 0)))
                if isinstance(node, ast.Constant):
                    self.assertNotIsInstance(node.value, (float, complex), name)
                if isinstance(node, (ast.For, ast.While)):
                    self.assertEqual(node.orelse, [], name)

    def test_defs(self):
        for name, tree in trees():
            for node in ast.walk(tree):
                if isinstance(node, (ast.FunctionDef, ast.ClassDef)):
                    self.assertEqual(node.decorator_list, [], node.name)
                    self.assertTrue(node.name[0] != "_" or node.name in METHODS, node.name)
                if isinstance(node, ast.FunctionDef):
                    self.assertLessEqual(node.end_lineno - node.lineno + 1, 40, node.name)
                    self.assertIsNone(node.args.vararg or node.args.kwarg, node.name)

    def test_imports_are_the_packages_own(self):
        for name, tree in trees():
            for node in ast.walk(tree):
                if isinstance(node, ast.ImportFrom):
                    self.assertTrue(node.level == 0 and node.module.startswith("starsieve."), (name, node.module))

    def test_names_of_pythons_own(self):
        for name, tree in trees():
            nodes = list(ast.walk(tree))
            given = {node.id for node in nodes if isinstance(node, ast.Name) and not isinstance(node.ctx, ast.Load)}
            given |= {node.arg for node in nodes if isinstance(node, ast.arg)}
            given |= {node.name for node in nodes if isinstance(node, (ast.FunctionDef, ast.ClassDef))}
            given |= {node.name for node in nodes if isinstance(node, ast.alias)}
            given |= {node.name for node in nodes if isinstance(node, ast.ExceptHandler) and node.name}
            asked = {node.id for node in nodes if isinstance(node, ast.Name)}
            self.assertEqual(sorted(asked - given - set(NAMES)), [], name)
            self.assertEqual(sorted(given & set(dir(__import__("builtins")))), [], name)

    def test_is_stands_beside_plain_truths(self):
        for name, tree in trees():
            for node in ast.walk(tree):
                if isinstance(node, ast.Compare) and isinstance(node.ops[0], (ast.Is, ast.IsNot)):
                    sides = [node.left] + node.comparators
                    plain = [ast.unparse(side) in ("None", "True", "False") for side in sides]
                    self.assertIn(True, plain, (name, node.lineno))

    def test_locals_are_not_called_like_what_a_file_draws_in_or_defines(self):
        for name, tree in trees():
            nodes = list(ast.walk(tree))
            tops = {node.name for node in tree.body if isinstance(node, (ast.FunctionDef, ast.ClassDef))}
            tops |= {node.name for node in nodes if isinstance(node, ast.alias)}
            for node in nodes:
                if isinstance(node, ast.arg):
                    self.assertNotIn(node.arg, tops, (name, node.lineno))
                if isinstance(node, ast.Name) and not isinstance(node.ctx, ast.Load):
                    self.assertNotIn(node.id, tops, (name, node.lineno))

    def test_no_two_files_draw_from_one_another(self):
        drawn = {}
        for name, tree in trees():
            froms = [node for node in ast.walk(tree) if isinstance(node, ast.ImportFrom)]
            drawn[name] = {node.module.split(".")[1] + ".py" for node in froms}
            for node in froms:
                source = dict(trees())[node.module.split(".")[1] + ".py"]
                defined = {top.name for top in source.body if isinstance(top, (ast.FunctionDef, ast.ClassDef))}
                defined |= {target.id for top in source.body if isinstance(top, ast.Assign) for target in top.targets}
                self.assertLessEqual({alias.name for alias in node.names}, defined, (name, node.module))
        while drawn:
            free = [name for name in drawn if not drawn[name] & set(drawn)]
            self.assertTrue(free, drawn)
            for name in free:
                del drawn[name]


if __name__ == "__main__":
    unittest.main()
