"""The package keeps to the part of Python it's written in, as far as its rows can be read for it."""

import ast
import builtins
import pathlib
import re
import unittest

PACKAGE = pathlib.Path(__file__).resolve().parent.parent / "relationsheld"
FILES = sorted(PACKAGE.glob("*.py"))

TOP = (ast.ImportFrom, ast.FunctionDef, ast.ClassDef, ast.Assign, ast.Expr)
NODES = (
    ast.Module, ast.ImportFrom, ast.alias, ast.FunctionDef, ast.ClassDef, ast.arguments, ast.arg,
    ast.Assign, ast.AugAssign, ast.If, ast.While, ast.For, ast.Return, ast.Break, ast.Continue, ast.Pass,
    ast.Raise, ast.Try, ast.ExceptHandler, ast.Expr, ast.Constant, ast.List, ast.Tuple, ast.Dict,
    ast.BinOp, ast.UnaryOp, ast.Compare, ast.BoolOp, ast.IfExp, ast.Call, ast.Attribute, ast.Subscript,
    ast.Slice, ast.ListComp, ast.comprehension, ast.Name, ast.Lambda, ast.keyword, ast.expr_context,
    ast.operator, ast.unaryop, ast.boolop, ast.cmpop,
)
BUILTINS = set("""len range enumerate zip min max sum abs sorted reversed int str bool list tuple dict set
    isinstance ord repr any all divmod Exception ValueError TypeError KeyError IndexError LookupError
    ZeroDivisionError ArithmeticError OverflowError RuntimeError NotImplementedError StopIteration""".split())
METHODS = set("""append clear copy count endswith extend find get index insert items join keys pop remove
    replace reverse setdefault split startswith strip update values bit_length""".split())
WORDS = set("""type typing typing_extensions enum Enum IntEnum StrEnum Flag IntFlag Generic Protocol ABC
    ABCMeta namedtuple NamedTuple TypedDict TYPE_CHECKING abstractmethod""".split())
NOT_NAMES = set("""register mro elements open input version_info with_traceback add_note compile dir eval
    exec exit getattr globals hasattr help id locals os quit setattr super sys vars format""".split())


def names_bound(tree):
    """Each name that is given a meaning anywhere in the file, with where it stands."""
    for node in ast.walk(tree):
        if isinstance(node, (ast.FunctionDef, ast.ClassDef)):
            yield node.name, node.lineno
        elif isinstance(node, ast.arg):
            yield node.arg, node.lineno
        elif isinstance(node, ast.Name) and isinstance(node.ctx, ast.Store):
            yield node.id, node.lineno
        elif isinstance(node, ast.Attribute):
            yield node.attr, node.lineno


def top_names(tree):
    """The names that a file's top defines, imports apart."""
    names = [node.name for node in tree.body if isinstance(node, (ast.FunctionDef, ast.ClassDef))]
    return names + [node.targets[0].id for node in tree.body if isinstance(node, ast.Assign)]


class Language(unittest.TestCase):
    def setUp(self):
        self.texts = {path.stem: path.read_text(encoding="utf-8") for path in FILES}
        self.trees = {stem: ast.parse(text) for stem, text in self.texts.items()}

    def nodes(self, kinds):
        for stem, tree in self.trees.items():
            for node in ast.walk(tree):
                if isinstance(node, kinds):
                    yield stem, node

    def test_files(self):
        self.assertIn("bounds", self.texts)
        self.assertIn("__init__", self.texts)
        for path in PACKAGE.iterdir():
            if path.name != "__pycache__":
                self.assertRegex(path.name, r"^(__init__|[a-z][a-z0-9_]*)\.py$")

    def test_signs_and_sizes(self):
        for stem, text in self.texts.items():
            rows = text.split("\n")
            self.assertLessEqual(len(rows), 400, stem)
            for row in rows:
                self.assertLessEqual(len(row), 120, (stem, row))
                self.assertRegex(row, r"^[ -~]*$", stem)
            self.assertFalse(WORDS & set(re.findall(r"\w+", text)), stem)
        for stem, node in self.nodes(ast.FunctionDef):
            self.assertLessEqual(node.end_lineno - node.lineno + 1, 40, (stem, node.name))

    def test_statements_and_values(self):
        for stem, node in self.nodes(ast.AST):
            self.assertIsInstance(node, NODES, (stem, getattr(node, "lineno", None)))
        for stem, node in self.nodes(ast.Assign):
            self.assertEqual(len(node.targets), 1, (stem, node.lineno))
            self.assertNotIsInstance(node.targets[0], (ast.Tuple, ast.List), (stem, node.lineno))
        for stem, node in self.nodes((ast.For, ast.While)):
            self.assertFalse(node.orelse, (stem, node.lineno))
        for stem, node in self.nodes(ast.ListComp):
            self.assertEqual(len(node.generators), 1, (stem, node.lineno))
            self.assertLessEqual(len(node.generators[0].ifs), 1, (stem, node.lineno))
        for stem, node in self.nodes((ast.Div, ast.MatMult)):
            self.fail((stem, node))
        for stem, node in self.nodes(ast.Constant):
            self.assertIsInstance(node.value, (int, str, type(None)), (stem, node.lineno))

    def test_tops(self):
        for stem, tree in self.trees.items():
            self.assertIsInstance(ast.get_docstring(tree), str, stem)
            for node in tree.body[1:]:
                self.assertIsInstance(node, TOP[:-1], (stem, node.lineno))
            names = top_names(tree)
            self.assertEqual(len(names), len(set(names)), stem)

    def test_values_of_tops_are_plain(self):
        plain = (ast.Constant, ast.Tuple, ast.List, ast.Dict, ast.UnaryOp, ast.unaryop, ast.expr_context)
        for stem, tree in self.trees.items():
            defined = []
            for node in tree.body:
                if isinstance(node, ast.FunctionDef):
                    defined.append(node.name)
                for part in ast.walk(node.value) if isinstance(node, ast.Assign) else ():
                    if isinstance(part, ast.Name):
                        self.assertIn(part.id, defined, (stem, node.lineno))
                    else:
                        self.assertIsInstance(part, plain, (stem, node.lineno))

    def test_functions_and_classes(self):
        for stem, node in self.nodes(ast.FunctionDef):
            told = node.args
            self.assertFalse(told.vararg or told.kwarg or told.kwonlyargs or told.posonlyargs, (stem, node.name))
            self.assertFalse(node.decorator_list or node.returns, (stem, node.name))
        for stem, node in self.nodes(ast.ClassDef):
            self.assertLessEqual(len(node.bases), 1, (stem, node.name))
            self.assertFalse(node.decorator_list or node.keywords, (stem, node.name))
            for part in node.body:
                self.assertIsInstance(part, (ast.FunctionDef, ast.Pass), (stem, node.name))

    def test_imports(self):
        drawn = {stem: [] for stem in self.trees}
        for stem, node in self.nodes(ast.ImportFrom):
            self.assertIn(node, self.trees[stem].body, stem)
            self.assertEqual(node.level, 0, stem)
            self.assertRegex(node.module, r"^relationsheld\.[a-z_]+$", stem)
            other = node.module.split(".")[1]
            drawn[stem].append(other)
            for name in node.names:
                self.assertIn(name.name, top_names(self.trees[other]), stem)
                self.assertIsNone(name.asname, stem)
        # Files that draw on none that is left are taken away, until a ring alone would be left.
        while drawn:
            free = [stem for stem, others in drawn.items() if not set(others) & set(drawn)]
            self.assertTrue(free, drawn)
            for stem in free:
                drawn.pop(stem)

    def test_names(self):
        own = set(dir(builtins))
        for stem, tree in self.trees.items():
            drawn = {name.name for node in tree.body if isinstance(node, ast.ImportFrom) for name in node.names}
            for name, row in names_bound(tree):
                if name != "__init__":
                    self.assertRegex(name, r"^[A-Za-z][A-Za-z0-9_]*$", (stem, row))
                self.assertNotIn(name, NOT_NAMES, (stem, row))
                self.assertNotIn(name, own, (stem, row))
            local = [name for name, row in names_bound(tree) if name in drawn]
            self.assertFalse(local, stem)
        for stem, node in self.nodes(ast.Name):
            if node.id in own:
                self.assertIn(node.id, BUILTINS, (stem, node.lineno))

    def test_methods(self):
        own = {part.name for stem, node in self.nodes(ast.ClassDef) for part in node.body
               if isinstance(part, ast.FunctionDef)}
        for stem, node in self.nodes(ast.Call):
            if isinstance(node.func, ast.Attribute):
                self.assertIn(node.func.attr, METHODS | own, (stem, node.lineno))

    def test_is_stands_beside_none_true_and_false_alone(self):
        for stem, node in self.nodes(ast.Compare):
            for sign, other in zip(node.ops, node.comparators):
                if isinstance(sign, (ast.Is, ast.IsNot)):
                    self.assertIsInstance(other, ast.Constant, (stem, node.lineno))


if __name__ == "__main__":
    unittest.main()
