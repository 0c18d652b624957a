"""The package keeps to the rules of LANGUAGE.md that can be seen from its files."""

import ast
import pathlib
import re
import unittest

PACKAGE = pathlib.Path(__file__).resolve().parent.parent / "looseleavesdesk"

STATEMENTS = (
    ast.Assign, ast.AugAssign, ast.If, ast.While, ast.For, ast.Return, ast.Break, ast.Continue, ast.Pass, ast.Raise,
    ast.Try, ast.Expr, ast.FunctionDef, ast.ClassDef, ast.ImportFrom,
)
EXPRESSIONS = (
    ast.Constant, ast.List, ast.Tuple, ast.Dict, ast.Set, ast.BinOp, ast.UnaryOp, ast.BoolOp, ast.Compare, ast.IfExp,
    ast.Call, ast.Attribute, ast.Subscript, ast.Slice, ast.ListComp, ast.JoinedStr, ast.FormattedValue, ast.Name,
    ast.Lambda,
)
OWN_NAMES = """
    len range enumerate zip min max sum abs sorted reversed int str bool list tuple dict set frozenset isinstance ord
    repr any all divmod Exception ValueError TypeError KeyError IndexError LookupError ZeroDivisionError
    ArithmeticError OverflowError RuntimeError NotImplementedError StopIteration
""".split()
OWN_METHODS = """
    append clear copy count endswith extend find get index insert isalnum isalpha isdigit islower isspace isupper items
    join keys ljust lower lstrip partition pop remove replace reverse rfind rjust rpartition rsplit rstrip setdefault
    split splitlines startswith strip update upper values zfill bit_length
""".split()
WORDS_OUT = """
    type typing typing_extensions enum Enum IntEnum StrEnum Flag IntFlag Generic Protocol ABC ABCMeta namedtuple
    NamedTuple TypedDict TYPE_CHECKING abstractmethod register mro elements open input version_info with_traceback
    add_note
""".split()
SPECIAL_METHODS = ("__init__", "__eq__", "__repr__", "__str__", "__len__")


def walk(tree, *kinds):
    return [node for node in ast.walk(tree) if isinstance(node, kinds)]


def is_plain(node):
    try:
        ast.literal_eval(node)
    except ValueError:
        return False
    return True


def top_names(tree):
    """The names that a file's top defines, without those that it imports."""
    names = {node.name for node in tree.body if isinstance(node, (ast.FunctionDef, ast.ClassDef))}
    return names | {node.targets[0].id for node in tree.body if isinstance(node, ast.Assign)}


class Language(unittest.TestCase):
    def setUp(self):
        self.files = {path: path.read_text("utf-8") for path in sorted(PACKAGE.glob("*.py"))}
        self.trees = {path: ast.parse(text) for path, text in self.files.items()}

    def test_files(self):
        lying = {path.name for path in PACKAGE.iterdir() if path.name != "__pycache__"}
        self.assertEqual(lying, {path.name for path in self.files})
        self.assertIn("__init__.py", lying)
        for name in lying - {"__init__.py", "__main__.py"}:
            self.assertRegex(name, r"\A[a-z][a-z0-9_]*\.py\Z")

    def test_signs_and_words(self):
        for path, text in self.files.items():
            self.assertRegex(text, r"\A[ -~\n]*\Z", path)
            self.assertEqual([word for word in re.findall(r"\w+", text) if word in WORDS_OUT], [], path)

    def test_sizes(self):
        for path, text in self.files.items():
            rows = text.split("\n")
            self.assertLessEqual(len(rows), 400, path)
            self.assertLessEqual(max(len(row) for row in rows), 120, path)
            for function in walk(self.trees[path], ast.FunctionDef):
                self.assertLessEqual(function.end_lineno - function.lineno + 1, 40, function.name)

    def test_imports(self):
        for path, tree in self.trees.items():
            for row in walk(tree, ast.Import, ast.ImportFrom):
                self.assertIsInstance(row, ast.ImportFrom, path)
                self.assertEqual(row.level, 0, path)
                self.assertTrue(row.module.startswith(PACKAGE.name + "."), path)
                self.assertNotIn("*", [alias.name for alias in row.names], path)

    def test_what_is_drawn_from_where(self):
        drawn = {path.stem: set() for path in self.trees}
        defined = {path.stem: top_names(tree) for path, tree in self.trees.items()}
        for path, tree in self.trees.items():
            for row in walk(tree, ast.ImportFrom):
                owner = row.module.split(".")[1]
                drawn[path.stem].add(owner)
                for alias in row.names:
                    self.assertIn(alias.name, defined[owner], (path, row.lineno))
        # A file that draws from none left is taken out; a ring would stay.
        while drawn:
            free = [name for name, owners in drawn.items() if not owners & set(drawn)]
            self.assertTrue(free, drawn)
            drawn = {name: owners for name, owners in drawn.items() if name not in free}

    def test_locals_are_not_called_like_what_the_top_binds(self):
        for path, tree in self.trees.items():
            top = top_names(tree) | {alias.name for row in walk(tree, ast.ImportFrom) for alias in row.names}
            for function in walk(tree, ast.FunctionDef):
                inner = {node.id for node in walk(function, ast.Name) if isinstance(node.ctx, ast.Store)}
                inner |= {node.arg for node in walk(function, ast.arg)}
                inner |= {node.name for node in walk(function, ast.ExceptHandler) if node.name}
                self.assertEqual(inner & top, set(), (path, function.name))

    def test_the_top_of_a_file(self):
        for path, tree in self.trees.items():
            bound = []
            for node in tree.body:
                if isinstance(node, ast.Assign):
                    self.assertTrue(is_plain(node.value), (path, node.lineno))
                    bound.append(node.targets[0].id)
                elif isinstance(node, ast.Expr):
                    self.assertIs(node, tree.body[0], (path, node.lineno))
                elif isinstance(node, ast.ImportFrom):
                    bound.extend(alias.asname or alias.name for alias in node.names)
                else:
                    self.assertIsInstance(node, (ast.FunctionDef, ast.ClassDef), (path, node.lineno))
                    bound.append(node.name)
            self.assertEqual(len(bound), len(set(bound)), path)

    def test_statements_and_expressions(self):
        for path, tree in self.trees.items():
            for node in walk(tree, ast.stmt):
                self.assertIsInstance(node, STATEMENTS, (path, node.lineno))
            for node in walk(tree, ast.expr):
                self.assertIsInstance(node, EXPRESSIONS, (path, node.lineno))
            self.assertEqual(walk(tree, ast.Div, ast.MatMult, ast.NamedExpr), [], path)
            for loop in walk(tree, ast.For, ast.While):
                self.assertEqual(loop.orelse, [], (path, loop.lineno))
            for row in walk(tree, ast.Assign):
                self.assertEqual(len(row.targets), 1, (path, row.lineno))
                self.assertNotIsInstance(row.targets[0], (ast.Tuple, ast.List), (path, row.lineno))
            for value in walk(tree, ast.Constant):
                self.assertIn(type(value.value), (int, str, bool, type(None)), (path, value.lineno))

    def test_functions_and_classes(self):
        for path, tree in self.trees.items():
            for function in walk(tree, ast.FunctionDef):
                given = function.args
                self.assertEqual(given.kwonlyargs + given.posonlyargs + function.decorator_list, [], function.name)
                self.assertEqual([given.vararg, given.kwarg, function.returns], [None] * 3, function.name)
            for owner in walk(tree, ast.ClassDef):
                self.assertLessEqual(len(owner.bases), 1, owner.name)
                self.assertEqual(owner.decorator_list + owner.keywords, [], owner.name)
                methods = [part.name for part in owner.body if isinstance(part, ast.FunctionDef)]
                self.assertEqual(len(methods), len(set(methods)), owner.name)

    def test_names(self):
        for path, tree in self.trees.items():
            defined = {node.name for node in walk(tree, ast.FunctionDef, ast.ClassDef)}
            defined |= {node.id for node in walk(tree, ast.Name) if isinstance(node.ctx, ast.Store)}
            defined |= {node.arg for node in walk(tree, ast.arg)}
            defined |= {node.name for node in walk(tree, ast.ExceptHandler) if node.name}
            defined |= {alias.asname or alias.name for row in walk(tree, ast.ImportFrom) for alias in row.names}
            for name in defined - set(SPECIAL_METHODS):
                self.assertRegex(name, r"\A[A-Za-z][A-Za-z0-9_]*\Z", path)
                self.assertNotIn(name, dir(__builtins__) if not isinstance(__builtins__, dict) else __builtins__)
            for node in walk(tree, ast.Name):
                self.assertIn(node.id, defined | set(OWN_NAMES), (path, node.lineno))

    def test_methods_and_values(self):
        methods, values = set(), set()
        for tree in self.trees.values():
            for owner in walk(tree, ast.ClassDef):
                methods |= {part.name for part in owner.body if isinstance(part, ast.FunctionDef)}
            values |= {node.attr for node in walk(tree, ast.Attribute) if isinstance(node.ctx, ast.Store)}
        self.assertEqual(methods & values, set())
        for path, tree in self.trees.items():
            for node in walk(tree, ast.Attribute):
                self.assertIn(node.attr, methods | values | set(OWN_METHODS), (path, node.lineno))

    def test_is_and_except(self):
        for path, tree in self.trees.items():
            for test in walk(tree, ast.Compare):
                if any(isinstance(sign, (ast.Is, ast.IsNot)) for sign in test.ops):
                    self.assertIsInstance(test.comparators[0], ast.Constant, (path, test.lineno))
            for handler in walk(tree, ast.ExceptHandler):
                self.assertIsNotNone(handler.type, (path, handler.lineno))
                self.assertNotIn(ast.unparse(handler.type), ("Exception", "TypeError"), (path, handler.lineno))


if __name__ == "__main__":
    unittest.main()
