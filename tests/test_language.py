"""The package's files keep to the small part of Python they are written in."""

import ast
import builtins
import pathlib
import re
import unittest

PACKAGE = pathlib.Path(__file__).resolve().parent.parent / "hiddencounts"

NODES = """Module Expr Assign AugAssign FunctionDef arguments arg Return If For While Break Continue Pass
Name Load Store Constant Call Attribute Subscript Slice List Tuple Dict ListComp comprehension IfExp Lambda
BinOp Add Sub Mult FloorDiv Mod BitAnd BitOr BitXor LShift RShift UnaryOp USub Invert Not BoolOp And Or
Compare Eq NotEq Lt LtE Gt GtE Is IsNot In NotIn""".split()

BUILTINS = """len range enumerate zip min max sum abs sorted reversed int str bool list tuple dict
any all divmod""".split()

METHODS = """append clear copy count extend get index insert items keys pop remove reverse setdefault update
values bit_length""".split()

BANNED_WORDS = """type typing typing_extensions enum Enum IntEnum StrEnum Flag IntFlag Generic Protocol ABC
ABCMeta namedtuple NamedTuple TypedDict TYPE_CHECKING abstractmethod""".split()


def sources():
    return sorted(PACKAGE.rglob("*.py"))


def bound_names(tree):
    """Every name that the file gives to something."""
    names = []
    for node in ast.walk(tree):
        if isinstance(node, ast.Name) and isinstance(node.ctx, ast.Store):
            names.append(node.id)
        elif isinstance(node, ast.FunctionDef):
            names.append(node.name)
        elif isinstance(node, ast.arg):
            names.append(node.arg)
    return names


class Language(unittest.TestCase):
    def each_tree(self):
        for path in sources():
            with self.subTest(file=path.name):
                yield path, ast.parse(path.read_text(encoding="ascii"))

    def test_only_source_files(self):
        found = [path.name for path in PACKAGE.iterdir() if path.name != "__pycache__"]
        self.assertEqual(sorted(found), ["__init__.py", "tables.py"])

    def test_signs_and_sizes(self):
        for path in sources():
            text = path.read_text(encoding="ascii")
            self.assertTrue(all(sign == "\n" or " " <= sign <= "~" for sign in text), path)
            self.assertLessEqual(len(text.splitlines()), 400, path)
            self.assertLessEqual(max(len(line) for line in text.splitlines()), 120, path)

    def test_words(self):
        for path in sources():
            words = re.findall(r"\w+", path.read_text(encoding="ascii"))
            self.assertEqual([word for word in words if word in BANNED_WORDS], [], path)

    def test_nodes(self):
        # No import is among the nodes: the program imports nothing.
        for path, tree in self.each_tree():
            for node in ast.walk(tree):
                self.assertIn(node.__class__.__name__, NODES, getattr(node, "lineno", path))

    def test_values(self):
        for path, tree in self.each_tree():
            for node in ast.walk(tree):
                if isinstance(node, ast.Constant):
                    self.assertIn(type(node.value), [int, str, bool, type(None)], node.lineno)

    def test_assignments_have_one_target(self):
        for path, tree in self.each_tree():
            for node in ast.walk(tree):
                if isinstance(node, ast.Assign):
                    self.assertEqual(len(node.targets), 1, node.lineno)
                    self.assertIsInstance(node.targets[0], (ast.Name, ast.Subscript), node.lineno)
                if isinstance(node, (ast.For, ast.While)):
                    self.assertEqual(node.orelse, [], node.lineno)

    def test_functions(self):
        for path, tree in self.each_tree():
            for node in ast.walk(tree):
                if isinstance(node, ast.FunctionDef):
                    self.assertLessEqual(node.end_lineno - node.lineno + 1, 40, node.name)
                    self.assertEqual(node.decorator_list, [], node.name)
                    self.assertIsNone(node.args.vararg or node.args.kwarg, node.name)
                    self.assertEqual(node.args.kwonlyargs + node.args.posonlyargs, [], node.name)

    def test_names(self):
        for path, tree in self.each_tree():
            bound = bound_names(tree)
            for name in bound:
                self.assertRegex(name, r"\A[A-Za-z][A-Za-z0-9_]*\Z")
                self.assertNotIn(name, dir(builtins))
            for node in ast.walk(tree):
                if isinstance(node, ast.Name):
                    self.assertIn(node.id, bound + BUILTINS, node.lineno)
                if isinstance(node, ast.Attribute):
                    self.assertIn(node.attr, METHODS, node.lineno)

    def test_top_of_a_file(self):
        for path, tree in self.each_tree():
            names = []
            for node in tree.body:
                self.assertIsInstance(node, (ast.Expr, ast.Assign, ast.FunctionDef), node.lineno)
                if isinstance(node, ast.Expr):
                    self.assertIsInstance(node.value, ast.Constant, node.lineno)
                else:
                    names.append(node.name if isinstance(node, ast.FunctionDef) else node.targets[0].id)
            self.assertEqual(len(names), len(set(names)))


if __name__ == "__main__":
    unittest.main()
