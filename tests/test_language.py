"""The package keeps to the plain part of Python: what can be seen of it row by row."""

import ast
import pathlib
import re
import unittest

PACKAGE = pathlib.Path(__file__).resolve().parent.parent / "starsieve"

OUTSIDE = (
    ast.Import, ast.GeneratorExp, ast.NamedExpr, ast.With, ast.Match, ast.Global, ast.Nonlocal, ast.Yield,
    ast.YieldFrom, ast.Await, ast.AsyncFunctionDef, ast.AsyncFor, ast.AsyncWith, ast.Div, ast.MatMult,
)
WORDS = re.compile(
    r"\b(type|typing|typing_extensions|enum|Enum|IntEnum|StrEnum|Flag|IntFlag|Generic|Protocol|ABC|ABCMeta|namedtuple"
    r"|NamedTuple|TypedDict|TYPE_CHECKING|abstractmethod)\b|dataclass|overload|contextmanager"
)
NAMES = (
    "len range enumerate zip min max sum abs sorted reversed int str bool bytes list tuple dict set frozenset"
    " isinstance ord repr any all divmod Exception ValueError TypeError KeyError IndexError LookupError"
    " ZeroDivisionError ArithmeticError OverflowError RuntimeError NotImplementedError AttributeError"
    " StopIteration"
).split()
METHODS = ("__init__", "__eq__", "__repr__", "__str__", "__len__")
PYTHONS_METHODS = (
    "append clear copy count endswith extend find get index insert isalnum isalpha isdigit islower isspace isupper"
    " items join keys ljust lower lstrip partition pop remove replace reverse rfind rjust rpartition rsplit rstrip"
    " setdefault split splitlines startswith strip update upper values zfill bit_length"
).split()
NOT_USED = (
    "register mro elements open input version_info with_traceback add_note attrgetter breakpoint builtins compile"
    " copyright credits delattr dir eval exec exit gc getattr globals hasattr help id importlib license locals"
    " methodcaller os quit setattr super type vars sys format format_map chr"
).split()


def sources():
    return [(path.name, path.read_text(encoding="utf-8")) for path in sorted(PACKAGE.glob("*.py"))]


def trees():
    return [(name, ast.parse(text)) for name, text in sources()]


class LanguageTest(unittest.TestCase):
    def test_only_plain_files(self):
        for path in PACKAGE.iterdir():
            if path.name != "__pycache__":
                self.assertRegex(path.name, r"^[a-z0-9_]+\.py$")

    def test_sizes_and_signs(self):
        for name, text in sources():
            rows = text.split("\n")
            self.assertLessEqual(len(rows), 400, name)
            for row in rows:
                self.assertLessEqual(len(row), 120, (name, row))
                self.assertRegex(row, r"^[ -~]*$", name)

    def test_words_that_stand_nowhere(self):
        for name, text in sources():
            self.assertIsNone(WORDS.search(text), name)

    def test_no_row_of_a_kind_outside(self):
        for name, tree in trees():
            for node in ast.walk(tree):
                self.assertNotIsInstance(node, OUTSIDE, (name, getattr(node, "lineno", 0)))
                if isinstance(node, ast.Constant):
                    self.assertNotIsInstance(node.value, (float, complex), name)
                if isinstance(node, (ast.For, ast.While)):
                    self.assertEqual(node.orelse, [], name)

    def test_defs(self):
        for name, tree in trees():
            for node in ast.walk(tree):
                if isinstance(node, (ast.FunctionDef, ast.ClassDef)):
                    self.assertEqual(node.decorator_list, [], node.name)
                    self.assertTrue(node.name[0] != "_" or node.name in METHODS, node.name)
                if isinstance(node, ast.FunctionDef):
                    self.assertLessEqual(node.end_lineno - node.lineno + 1, 40, node.name)
                    self.assertIsNone(node.args.vararg or node.args.kwarg, node.name)

    def test_imports_are_the_packages_own(self):
        for name, tree in trees():
            for node in ast.walk(tree):
                if isinstance(node, ast.ImportFrom):
                    self.assertTrue(node.level == 0 and node.module.startswith("starsieve."), (name, node.module))

    def test_names_of_pythons_own(self):
        for name, tree in trees():
            nodes = list(ast.walk(tree))
            given = {node.id for node in nodes if isinstance(node, ast.Name) and not isinstance(node.ctx, ast.Load)}
            given |= {node.arg for node in nodes if isinstance(node, ast.arg)}
            given |= {node.name for node in nodes if isinstance(node, (ast.FunctionDef, ast.ClassDef))}
            given |= {node.name for node in nodes if isinstance(node, ast.alias)}
            given |= {node.name for node in nodes if isinstance(node, ast.ExceptHandler) and node.name}
            asked = {node.id for node in nodes if isinstance(node, ast.Name)}
            self.assertEqual(sorted(asked - given - set(NAMES)), [], name)
            self.assertEqual(sorted(given & set(dir(__import__("builtins")))), [], name)

    def test_names_that_are_not_used(self):
        for name, tree in trees():
            for node in ast.walk(tree):
                for field in ("id", "attr", "arg", "name"):
                    given = getattr(node, field, None)
                    if isinstance(given, str):
                        self.assertNotIn(given, NOT_USED, (name, node.lineno))
                        self.assertTrue(given[0] != "_" or given in METHODS, (name, given))

    def test_methods_and_values(self):
        methods, values = set(), set()
        for name, tree in trees():
            for node in ast.walk(tree):
                if isinstance(node, ast.ClassDef):
                    methods |= {part.name for part in node.body if isinstance(part, ast.FunctionDef)}
                if isinstance(node, ast.Attribute) and not isinstance(node.ctx, ast.Load):
                    values.add(node.attr)
        self.assertEqual(methods & values, set())
        self.assertEqual(values & set(PYTHONS_METHODS), set())
        for name, tree in trees():
            nodes = list(ast.walk(tree))
            called = [node.func for node in nodes if isinstance(node, ast.Call)]
            for node in nodes:
                if isinstance(node, ast.Attribute):
                    known = methods | set(PYTHONS_METHODS) if node in called else values
                    self.assertIn(node.attr, known, (name, node.lineno))

    def test_sets_are_made_where_they_are_asked(self):
        for name, tree in trees():
            for node in ast.walk(tree):
                self.assertNotIsInstance(node, (ast.Set, ast.SetComp), (name, getattr(node, "lineno", 0)))
                inner = [part for part in ast.iter_child_nodes(node) if isinstance(part, ast.Call)]
                for part in inner:
                    if isinstance(part.func, ast.Name) and part.func.id in ("set", "frozenset"):
                        self.assertIn(ast.unparse(node).split("(")[0], ("sorted", "len"), (name, part.lineno))

    def test_what_a_top_holds(self):
        for name, tree in trees():
            seen = []
            for node in tree.body:
                if isinstance(node, ast.Assign):
                    seen += [target.id for target in node.targets]
                elif isinstance(node, ast.ImportFrom):
                    seen += [alias.asname or alias.name for alias in node.names]
                elif isinstance(node, (ast.FunctionDef, ast.ClassDef)):
                    seen.append(node.name)
                else:
                    self.assertTrue(isinstance(node, ast.Expr) and isinstance(node.value, ast.Constant), name)
            self.assertEqual(len(seen), len(set(seen)), name)

    def test_no_format_and_no_lone_escape_in_texts(self):
        for name, tree in trees():
            for node in ast.walk(tree):
                if isinstance(node, ast.FormattedValue):
                    self.assertIsNone(node.format_spec, (name, node.lineno))
                if isinstance(node, ast.Constant) and isinstance(node.value, str):
                    self.assertNotIn("%", node.value, (name, node.lineno))

    def test_is_stands_beside_plain_truths(self):
        for name, tree in trees():
            for node in ast.walk(tree):
                if isinstance(node, ast.Compare) and isinstance(node.ops[0], (ast.Is, ast.IsNot)):
                    sides = [node.left] + node.comparators
                    plain = [ast.unparse(side) in ("None", "True", "False") for side in sides]
                    self.assertIn(True, plain, (name, node.lineno))

    def test_locals_are_not_called_like_what_a_file_draws_in_or_defines(self):
        for name, tree in trees():
            nodes = list(ast.walk(tree))
            tops = {node.name for node in tree.body if isinstance(node, (ast.FunctionDef, ast.ClassDef))}
            tops |= {node.name for node in nodes if isinstance(node, ast.alias)}
            for node in nodes:
                if isinstance(node, ast.arg):
                    self.assertNotIn(node.arg, tops, (name, node.lineno))
                if isinstance(node, ast.Name) and not isinstance(node.ctx, ast.Load):
                    self.assertNotIn(node.id, tops, (name, node.lineno))

    def test_no_two_files_draw_from_one_another(self):
        drawn = {}
        for name, tree in trees():
            froms = [node for node in ast.walk(tree) if isinstance(node, ast.ImportFrom)]
            drawn[name] = {node.module.split(".")[1] + ".py" for node in froms}
            for node in froms:
                source = dict(trees())[node.module.split(".")[1] + ".py"]
                defined = {top.name for top in source.body if isinstance(top, (ast.FunctionDef, ast.ClassDef))}
                defined |= {target.id for top in source.body if isinstance(top, ast.Assign) for target in top.targets}
                self.assertLessEqual({alias.name for alias in node.names}, defined, (name, node.module))
        while drawn:
            free = [name for name in drawn if not drawn[name] & set(drawn)]
            self.assertTrue(free, drawn)
            for name in free:
                del drawn[name]


if __name__ == "__main__":
    unittest.main()
