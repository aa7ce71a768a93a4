"""The form of the package's files: the rules of LANGUAGE.md that a file shows by itself.

With these [1] is held, too: a file that draws in nothing but the package's own modules and
calls nothing but the names listed here has no clock, no chance and no files at hand.
"""

import ast
import builtins
import pathlib
import re
import unittest

PACKAGE = pathlib.Path(__file__).resolve().parent.parent / "nightglass"
FILES = sorted(PACKAGE.rglob("*.py"))

OWN_NAMES = set(
    "len range enumerate zip min max sum abs sorted reversed int str bool bytes list tuple dict set "
    "frozenset isinstance ord repr any all divmod Exception ValueError TypeError KeyError IndexError "
    "LookupError ZeroDivisionError ArithmeticError OverflowError RuntimeError NotImplementedError "
    "AttributeError StopIteration".split()
)
BANNED_WORDS = (
    r"\b(type|typing|typing_extensions|enum|Enum|IntEnum|StrEnum|Flag|IntFlag|Generic|Protocol|ABC|"
    r"ABCMeta|namedtuple|NamedTuple|TypedDict|TYPE_CHECKING|abstractmethod)\b|"
    r"dataclass|overload|contextmanager"
)
BANNED_NODES = (
    ast.With, ast.AsyncWith, ast.Match, ast.Global, ast.Nonlocal, ast.Yield, ast.YieldFrom, ast.Await,
    ast.AsyncFor, ast.AsyncFunctionDef, ast.GeneratorExp, ast.NamedExpr, ast.Import, ast.Div,
)


def texts():
    return [(path.name, path.read_text(encoding="utf-8")) for path in FILES]


def nodes():
    """Every node of every file, with the file's name and the place at which it stands."""
    return [
        (f"{name}:{getattr(node, 'lineno', 0)}", node)
        for name, text in texts()
        for node in ast.walk(ast.parse(text))
    ]


def drawn(tree):
    """The names that a file draws in."""
    rows = [node for node in tree.body if isinstance(node, ast.ImportFrom)]
    return {name.asname or name.name for node in rows for name in node.names}


def class_names(tree):
    return {node.name for node in tree.body if isinstance(node, ast.ClassDef)}


def locals_of(tree):
    """Every parameter and every local of a file's defs, with its line."""
    defs = [node for node in ast.walk(tree) if isinstance(node, (ast.FunctionDef, ast.Lambda))]
    inner = [node for one in defs for node in ast.walk(one)]
    params = [(node.arg, node.lineno) for node in inner if isinstance(node, ast.arg)]
    given = [node for node in inner if isinstance(node, ast.Name) and not isinstance(node.ctx, ast.Load)]
    return params + [(node.id, node.lineno) for node in given]


class LanguageTest(unittest.TestCase):
    def test_the_folder_holds_its_files_alone(self):
        self.assertIn(PACKAGE / "__init__.py", FILES)
        for path in PACKAGE.rglob("*"):
            if "__pycache__" not in path.parts and path.is_file():
                self.assertRegex(path.name, r"^[a-z0-9_]+\.py$")

    def test_signs_and_sizes(self):
        for name, text in texts():
            self.assertRegex(text, r"\A[ -~\n]*\Z", name)
            lines = text.splitlines()
            self.assertLessEqual(len(lines), 400, name)
            self.assertLessEqual(max([len(line) for line in lines], default=0), 120, name)

    def test_functions_have_at_most_forty_lines(self):
        for place, node in nodes():
            if isinstance(node, ast.FunctionDef):
                self.assertLessEqual(node.end_lineno - node.lineno + 1, 40, place)

    def test_words_that_stand_nowhere(self):
        for name, text in texts():
            self.assertIsNone(re.search(BANNED_WORDS, text), name)

    def test_only_own_modules_are_drawn_in(self):
        for place, node in nodes():
            if isinstance(node, ast.ImportFrom):
                self.assertEqual((node.level, node.col_offset), (0, 0), place)
                self.assertTrue(node.module.startswith("nightglass."), place)
                self.assertNotIn("*", [name.name for name in node.names], place)

    def test_only_listed_names_of_python(self):
        unlisted = set(dir(builtins)) - OWN_NAMES
        for place, node in nodes():
            if isinstance(node, ast.Name):
                self.assertNotIn(node.id, unlisted, place)

    def test_no_local_is_called_like_what_is_drawn_in_or_pythons_own(self):
        for name, text in texts():
            tree = ast.parse(text)
            taken = drawn(tree) | class_names(tree) | set(dir(builtins))
            for local, line in locals_of(tree):
                self.assertNotIn(local, taken, f"{name}:{line}")
                self.assertFalse(local.startswith("_"), f"{name}:{line}")

    def test_no_name_is_a_method_and_a_value(self):
        methods = {
            inner.name
            for place, node in nodes() if isinstance(node, ast.ClassDef)
            for inner in node.body if isinstance(inner, ast.FunctionDef)
        }
        values = {
            node.attr
            for place, node in nodes()
            if isinstance(node, ast.Attribute) and isinstance(node.ctx, ast.Store)
        }
        self.assertEqual(methods & values, set())

    def test_every_value_that_is_asked_is_one_that_some_class_gives(self):
        # Each parse makes new nodes, so all of them are of one.
        parsed = nodes()
        attributes = [(place, node) for place, node in parsed if isinstance(node, ast.Attribute)]
        given = {node.attr for place, node in attributes if isinstance(node.ctx, ast.Store)}
        called = [node.func for place, node in parsed if isinstance(node, ast.Call)]
        for place, node in attributes:
            if node not in called:
                self.assertIn(node.attr, given, place)

    def test_own_methods_and_values_are_called_like_none_of_pythons_values(self):
        pythons = {name for kind in (str, int, list, dict, set, bytes, tuple) for name in dir(kind)}
        for place, node in nodes():
            if isinstance(node, ast.ClassDef):
                for inner in node.body:
                    if isinstance(inner, ast.FunctionDef) and inner.name != "__init__":
                        self.assertNotIn(inner.name, pythons, place)
            if isinstance(node, ast.Attribute) and isinstance(node.ctx, ast.Store):
                self.assertNotIn(node.attr, pythons, place)

    def test_no_two_files_draw_from_one_another(self):
        drawn_from = {
            path.stem: {
                node.module.split(".")[1]
                for node in ast.parse(path.read_text(encoding="utf-8")).body
                if isinstance(node, ast.ImportFrom)
            }
            for path in FILES
        }
        while drawn_from:
            free = [name for name, others in drawn_from.items() if not others & set(drawn_from)]
            self.assertNotEqual(free, [], drawn_from)
            for name in free:
                del drawn_from[name]

    def test_errors_are_made_on_the_spot(self):
        for place, node in nodes():
            if isinstance(node, ast.Raise):
                self.assertIsInstance(node.exc, ast.Call, place)
                self.assertIsInstance(node.exc.func, ast.Name, place)

    def test_every_name_drawn_in_is_used(self):
        for name, text in texts():
            tree = ast.parse(text)
            used = {node.id for node in ast.walk(tree) if isinstance(node, ast.Name)}
            self.assertLessEqual(drawn(tree), used, name)

    def test_is_stands_beside_none_true_and_false(self):
        for place, node in nodes():
            if isinstance(node, ast.Compare) and isinstance(node.ops[0], (ast.Is, ast.IsNot)):
                self.assertIsInstance(node.comparators[0], ast.Constant, place)

    def test_no_statement_or_expression_outside_the_rules(self):
        for place, node in nodes():
            self.assertNotIsInstance(node, BANNED_NODES, place)
            self.assertNotIsInstance(getattr(node, "value", None), float, place)
            if isinstance(node, (ast.FunctionDef, ast.ClassDef)):
                self.assertEqual(node.decorator_list, [], place)
            if isinstance(node, (ast.For, ast.While)):
                self.assertEqual(node.orelse, [], place)


if __name__ == "__main__":
    unittest.main()
