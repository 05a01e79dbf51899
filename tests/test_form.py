"""Tests of the package's own files: where they lie, and the part of Python that they keep to.

The names L1 to L28 are those of the rules. Only what can be seen at a glance is asked here.
"""

import ast
import builtins
import pathlib
import re
import unittest

PACKAGE = pathlib.Path(__file__).resolve().parent.parent / "straightfigures"

STATEMENTS = (
    ast.FunctionDef, ast.ClassDef, ast.Assign, ast.AugAssign, ast.If, ast.While, ast.For, ast.Return, ast.Break,
    ast.Continue, ast.Pass, ast.Raise, ast.Try, ast.Expr, ast.ImportFrom,
)
EXPRESSIONS = (
    ast.BoolOp, ast.BinOp, ast.UnaryOp, ast.Lambda, ast.IfExp, ast.Dict, ast.ListComp, ast.Compare, ast.Call,
    ast.Constant, ast.Attribute, ast.Subscript, ast.Name, ast.List, ast.Tuple, ast.Slice, ast.JoinedStr,
    ast.FormattedValue,
)
OWN_NAMES = set(
    "len range enumerate zip min max sum abs sorted reversed int str bool list tuple dict set frozenset isinstance "
    "ord repr any all divmod Exception ValueError TypeError KeyError IndexError LookupError ZeroDivisionError "
    "ArithmeticError OverflowError RuntimeError NotImplementedError AttributeError StopIteration".split()
)
METHODS = set(
    "append clear copy count endswith extend find get index insert isalnum isalpha isdigit islower isspace isupper "
    "items join keys ljust lower lstrip partition pop remove replace reverse rfind rjust rpartition rsplit rstrip "
    "setdefault split splitlines startswith strip update upper values zfill bit_length".split()
)
WORDS = (
    r"\b(type|typing|typing_extensions|enum|Enum|IntEnum|StrEnum|Flag|IntFlag|Generic|Protocol|ABC|ABCMeta|namedtuple"
    r"|NamedTuple|TypedDict|TYPE_CHECKING|abstractmethod)\b|dataclass|overload|contextmanager"
)


class Form(unittest.TestCase):
    def files(self):
        for path in sorted(PACKAGE.iterdir()):
            if path.name != "__pycache__":
                yield path, path.read_text(encoding="utf-8")

    def nodes(self):
        for path, text in self.files():
            for node in ast.walk(ast.parse(text)):
                yield path.name, node

    def test_files(self):
        names = [path.name for path, text in self.files()]
        self.assertIn("__init__.py", names)
        self.assertIn("pieces.py", names)
        for name in names:
            self.assertRegex(name, r"^[a-z0-9_]+\.py$", "L1, L14")

    def test_signs_rows_and_words(self):
        for path, text in self.files():
            self.assertRegex(text, r"\A[ -~\n]*\Z", "L14")
            self.assertIsNone(re.search(WORDS, text), "L17")
            rows = text.splitlines()
            self.assertLessEqual(len(rows), 399, "L10")
            self.assertLessEqual(max(map(len, rows), default=0), 120, "L10")

    def test_only_plain_statements_and_expressions(self):
        for name, node in self.nodes():
            place = (name, getattr(node, "lineno", 0))
            if isinstance(node, ast.stmt):
                self.assertIsInstance(node, STATEMENTS, ("L6", place))
            if isinstance(node, ast.expr):
                self.assertIsInstance(node, EXPRESSIONS, ("L7", place))
            if isinstance(node, ast.Constant):
                self.assertIn(type(node.value), (int, str, bool, type(None)), ("L7", place))
            self.assertNotIsInstance(node, (ast.Div, ast.MatMult), ("L7", place))
            if isinstance(node, ast.Compare):
                for sign, right in zip(node.ops, node.comparators):
                    if isinstance(sign, (ast.Is, ast.IsNot)):
                        self.assertIn(ast.unparse(right), ("None", "True", "False"), ("L20", place))
            if isinstance(node, (ast.For, ast.While)):
                self.assertEqual(node.orelse, [], ("L6", place))
            if isinstance(node, ast.Assign):
                self.assertEqual(len(node.targets), 1, ("L6", place))
            if isinstance(node, ast.ListComp):
                self.assertEqual(len(node.generators), 1, ("L7", place))

    def test_defs(self):
        for name, node in self.nodes():
            if isinstance(node, ast.FunctionDef):
                place = (name, node.name)
                self.assertLessEqual(node.end_lineno - node.lineno + 1, 40, ("L10", place))
                self.assertEqual(node.decorator_list, [], ("L4", place))
                given = node.args
                odd = given.posonlyargs + given.kwonlyargs + [given.vararg, given.kwarg]
                self.assertEqual(odd, [None, None], ("L4", place))

    def test_names(self):
        pythons = set(dir(builtins))
        for name, node in self.nodes():
            place = (name, getattr(node, "lineno", 0))
            bound = None
            if isinstance(node, ast.FunctionDef):
                bound = node.name
            elif isinstance(node, ast.arg):
                bound = node.arg
            elif isinstance(node, ast.Name) and isinstance(node.ctx, ast.Store):
                bound = node.id
            if bound is not None:
                self.assertNotIn(bound, pythons, ("L15", place))
                self.assertRegex(bound, r"^[A-Za-z]\w*$", ("L12", place))
            if isinstance(node, ast.Name) and node.id in pythons:
                self.assertIn(node.id, OWN_NAMES, ("L8", place))
            if isinstance(node, ast.Attribute):
                self.assertIn(node.attr, METHODS, ("L25", place))

    def test_the_interface_is_written_in_pieces(self):
        tree = ast.parse((PACKAGE / "pieces.py").read_text(encoding="utf-8"))
        written = {node.name: node.args for node in tree.body if isinstance(node, ast.FunctionDef)}
        calls = {
            "size": ["f"], "triangles": ["f"], "where1": ["f", "z"], "meet": ["p", "q"], "joined": ["p", "q"],
            "inside": ["f", "p"],
        }
        for name, parameters in calls.items():
            self.assertEqual([given.arg for given in written[name].args], parameters, "L16")
            self.assertEqual(written[name].defaults, [], "L16")

    def test_imports_are_drawn_from_the_file_that_defines_them(self):
        defined = {}
        for path, text in self.files():
            defined["straightfigures." + path.stem] = [
                node.name for node in ast.parse(text).body if isinstance(node, (ast.FunctionDef, ast.ClassDef))
            ]
        for name, node in self.nodes():
            if isinstance(node, ast.ImportFrom):
                for drawn in node.names:
                    self.assertIn(drawn.name, defined[node.module], ("L16", name))
        everything = [known for names in defined.values() for known in names]
        self.assertEqual(len(everything), len(set(everything)), "L16")

    def test_the_top_of_a_module(self):
        for path, text in self.files():
            bound = []
            for node in ast.parse(text).body:
                if isinstance(node, ast.Assign):
                    ast.literal_eval(node.value)
                    bound.append(node.targets[0].id)
                elif isinstance(node, (ast.FunctionDef, ast.ClassDef)):
                    bound.append(node.name)
                elif isinstance(node, ast.Expr):
                    self.assertIsInstance(node.value, ast.Constant, "L3")
                else:
                    self.assertIsInstance(node, ast.ImportFrom, "L3")
                    self.assertEqual(node.module.split(".")[0], "straightfigures", "L2")
            self.assertEqual(len(bound), len(set(bound)), "L15")


if __name__ == "__main__":
    unittest.main()
