"""The form of the package's own files: what of ../shared/LANGUAGE.md can be seen from the text."""

import ast
import pathlib
import re
import unittest

PACKAGE = pathlib.Path(__file__).resolve().parent.parent / "longestrundesk"
OWN_NAMES = """len range enumerate zip min max sum abs sorted reversed int str bool list tuple dict set frozenset
    isinstance ord repr any all divmod Exception ValueError TypeError KeyError IndexError LookupError
    ZeroDivisionError ArithmeticError OverflowError RuntimeError NotImplementedError StopIteration""".split()
NODES = """Module FunctionDef ClassDef arguments arg Lambda Load Store Assign AugAssign If While For Return Break
    Continue Pass Raise Try ExceptHandler Expr Constant List Tuple Dict Name Attribute Subscript Slice BinOp UnaryOp
    BoolOp Compare IfExp Call keyword ListComp comprehension JoinedStr FormattedValue Add Sub Mult FloorDiv Mod Pow
    BitAnd BitOr BitXor LShift RShift Invert USub Not And Or Eq NotEq Lt LtE Gt GtE Is IsNot In NotIn
    ImportFrom alias""".split()
WORDS = r"\b(type|typing|typing_extensions|enum|Enum|IntEnum|StrEnum|Flag|IntFlag|Generic|Protocol|ABC|ABCMeta" \
        r"|namedtuple|NamedTuple|TypedDict|TYPE_CHECKING|abstractmethod)\b|dataclass|overload|contextmanager"


def files():
    return sorted(path for path in PACKAGE.rglob("*") if path.is_file() and "__pycache__" not in path.parts)


def bound_names(tree):
    bound = set()
    for node in ast.walk(tree):
        if isinstance(node, (ast.FunctionDef, ast.ClassDef)):
            bound.add(node.name)
        elif isinstance(node, ast.arg):
            bound.add(node.arg)
        elif isinstance(node, ast.alias):
            bound.add(node.asname or node.name)
        elif isinstance(node, ast.Name) and isinstance(node.ctx, ast.Store):
            bound.add(node.id)
    return bound


class Language(unittest.TestCase):
    def trees(self):
        for path in files():
            yield path, ast.parse(path.read_text(encoding="ascii"))

    def test_files(self):
        self.assertIn(PACKAGE / "__init__.py", files())
        for path in files():
            self.assertRegex(path.name, r"^(__init__|__main__|[a-z][a-z0-9_]*)\.py$")

    def test_signs_words_and_lines(self):
        for path in files():
            text = path.read_bytes().decode("ascii")
            self.assertRegex(text, r"^[ -~\n]*\Z", path)
            self.assertIsNone(re.search(WORDS, text), path)
            lines = text.split("\n")
            self.assertLessEqual(len(lines), 400, path)
            self.assertLessEqual(max(len(line) for line in lines), 120, path)

    def test_functions_have_at_most_40_lines(self):
        for path, tree in self.trees():
            for node in ast.walk(tree):
                if isinstance(node, ast.FunctionDef):
                    self.assertLessEqual(node.end_lineno - node.lineno + 1, 40, (path, node.name))

    def test_only_the_allowed_forms(self):
        for path, tree in self.trees():
            for node in ast.walk(tree):
                where = (path.name, getattr(node, "lineno", 0))
                self.assertIn(node.__class__.__name__, NODES, where)
                if isinstance(node, ast.Constant):
                    self.assertIn(node.value.__class__, (int, str, bool, None.__class__), where)
                if isinstance(node, ast.Assign):
                    self.assertEqual(len(node.targets), 1, where)
                if isinstance(node, (ast.For, ast.While)):
                    self.assertEqual(node.orelse, [], where)
                if isinstance(node, (ast.FunctionDef, ast.ClassDef)):
                    self.assertEqual(node.decorator_list, [], where)

    def test_a_statement_by_itself_is_a_call(self):
        for path, tree in self.trees():
            alone = [node for node in ast.walk(tree) if isinstance(node, ast.Expr)]
            self.assertEqual([node.lineno for node in alone if not isinstance(node.value, ast.Call)], [1], path)

    def test_only_the_allowed_names(self):
        for path, tree in self.trees():
            bound = bound_names(tree)
            self.assertEqual(bound & set(OWN_NAMES), set(), path)
            for name in bound:
                self.assertRegex(name, r"^([A-Za-z][A-Za-z0-9_]*|__(init|eq|repr|str|len|all|version)__)$", path)
            for node in ast.walk(tree):
                if isinstance(node, ast.Name):
                    self.assertIn(node.id, bound | set(OWN_NAMES), (path, node.lineno))

    def test_nothing_is_imported_but_from_the_package(self):
        for path, tree in self.trees():
            for node in ast.walk(tree):
                if isinstance(node, ast.ImportFrom):
                    self.assertEqual(node.level, 0, path)
                    self.assertRegex(node.module, r"^longestrundesk\.", path)

    def test_a_name_is_drawn_from_the_file_that_defines_it(self):
        trees = {path.stem: tree for path, tree in self.trees()}
        for path, tree in self.trees():
            for node in ast.walk(tree):
                if isinstance(node, ast.ImportFrom):
                    source = trees[node.module.split(".")[1]]
                    defined = {one.name for one in source.body if isinstance(one, (ast.FunctionDef, ast.ClassDef))}
                    self.assertLessEqual({one.name for one in node.names}, defined, path)

    def test_no_two_files_draw_from_one_another(self):
        left = {path.stem: {node.module.split(".")[1] for node in ast.walk(tree) if isinstance(node, ast.ImportFrom)}
                for path, tree in self.trees()}
        while left:
            free = {name for name in left if not left[name] & set(left)}
            self.assertTrue(free, left)
            left = {name: left[name] for name in left if name not in free}


if __name__ == "__main__":
    unittest.main()
