"""The package's files keep to the part of Python that the program is written in."""

import ast
import builtins
import pathlib
import re
import unittest

PACKAGE = pathlib.Path(__file__).resolve().parent.parent / "relationshelddesk"

FILES = sorted(path for path in PACKAGE.iterdir() if path.name != "__pycache__")

OWN_NAMES = set(
    "len range enumerate zip min max sum abs sorted reversed int str bool list tuple dict set frozenset isinstance "
    "ord repr any all divmod Exception ValueError TypeError KeyError IndexError LookupError ZeroDivisionError "
    "ArithmeticError OverflowError RuntimeError NotImplementedError AttributeError StopIteration".split()
)

METHODS = set(
    "append clear copy count endswith extend find get index insert isalnum isalpha isdigit islower isspace isupper "
    "items join keys ljust lower lstrip partition pop remove replace reverse rfind rjust rpartition rsplit rstrip "
    "setdefault split splitlines startswith strip update upper values zfill bit_length".split()
)

NODES = (
    ast.Module, ast.Expr, ast.Constant, ast.ImportFrom, ast.alias, ast.FunctionDef, ast.arguments, ast.arg,
    ast.ClassDef, ast.Assign, ast.AugAssign, ast.If, ast.While, ast.For, ast.Return, ast.Break, ast.Continue,
    ast.Pass, ast.Raise, ast.Try, ast.ExceptHandler, ast.Name, ast.Attribute, ast.Subscript, ast.Slice, ast.Call,
    ast.keyword, ast.List, ast.Tuple, ast.Dict, ast.BinOp, ast.UnaryOp, ast.BoolOp, ast.Compare, ast.IfExp,
    ast.ListComp, ast.comprehension, ast.JoinedStr, ast.FormattedValue, ast.expr_context, ast.operator,
    ast.unaryop, ast.boolop, ast.cmpop,
)

WORDS_NOWHERE = (
    "type typing typing_extensions enum Enum IntEnum StrEnum Flag IntFlag Generic Protocol ABC ABCMeta namedtuple "
    "NamedTuple TypedDict TYPE_CHECKING abstractmethod"
).split()

NAMES_NOWHERE = "register mro elements open input version_info with_traceback add_note".split()


def local_names(function):
    names = [argument.arg for argument in function.args.args]
    for node in ast.walk(function):
        if isinstance(node, ast.Name) and isinstance(node.ctx, ast.Store):
            names.append(node.id)
        if isinstance(node, ast.ExceptHandler) and node.name:
            names.append(node.name)
    return names


def each_file():
    found = []
    for path in FILES:
        text = path.read_text(encoding="ascii")
        found.append((path, text, ast.parse(text)))
    return found


class LanguageTest(unittest.TestCase):
    def test_files(self):
        self.assertIn(PACKAGE / "__init__.py", FILES)
        for path in FILES:
            self.assertRegex(path.name, r"\A[a-z0-9_]+\.py\Z")
            self.assertNotIn(path.stem, dir(builtins))

    def test_signs_and_sizes(self):
        for path, text, tree in each_file():
            with self.subTest(file=path.name):
                self.assertRegex(text, r"\A[ -~\n]*\Z")
                lines = text.split("\n")
                self.assertLessEqual(len(lines), 400)
                self.assertLessEqual(max(len(line) for line in lines), 120)
                for node in ast.walk(tree):
                    if isinstance(node, ast.FunctionDef):
                        self.assertLessEqual(node.end_lineno - node.lineno + 1, 40)

    def test_words_that_stand_nowhere(self):
        for path, text, tree in each_file():
            with self.subTest(file=path.name):
                words = re.findall(r"\w+", text)
                self.assertEqual([word for word in WORDS_NOWHERE if word in words], [])
                for node in ast.walk(tree):
                    name = getattr(node, "id", getattr(node, "attr", getattr(node, "arg", getattr(node, "name", ""))))
                    self.assertNotIn(name, NAMES_NOWHERE)

    def test_forms(self):
        for path, text, tree in each_file():
            with self.subTest(file=path.name):
                for node in ast.walk(tree):
                    self.assertIsInstance(node, NODES, f"line {getattr(node, 'lineno', '?')}")
                    self.check_form(node)

    def check_form(self, node):
        if isinstance(node, ast.BinOp):
            self.assertNotIsInstance(node.op, (ast.Div, ast.MatMult, ast.Pow))
        if isinstance(node, ast.Assign):
            self.assertEqual(len(node.targets), 1)
            self.assertNotIsInstance(node.targets[0], (ast.Tuple, ast.List))
        if isinstance(node, (ast.For, ast.While)):
            self.assertEqual(node.orelse, [])
        if isinstance(node, ast.Try):
            self.assertEqual(node.finalbody, [])
        if isinstance(node, ast.FunctionDef):
            self.assertEqual([node.decorator_list, node.returns], [[], None])
            self.assertEqual([node.args.vararg, node.args.kwarg, node.args.kwonlyargs], [None, None, []])
        if isinstance(node, ast.ListComp):
            self.assertEqual(len(node.generators), 1)
            self.assertLessEqual(len(node.generators[0].ifs), 1)
        if isinstance(node, ast.FormattedValue):
            self.assertIsInstance(node.value, ast.Name)
            self.assertIsNone(node.format_spec)
        if isinstance(node, ast.Constant):
            self.assertIsInstance(node.value, (int, str, type(None)))
            self.assertNotIn("%", str(node.value))
        if isinstance(node, ast.Compare) and isinstance(node.ops[0], (ast.Is, ast.IsNot)):
            self.assertIsInstance(node.comparators[0], ast.Constant)

    def test_the_top_of_each_file(self):
        for path, text, tree in each_file():
            with self.subTest(file=path.name):
                self.assertIsNotNone(ast.get_docstring(tree))
                bound = []
                for node in tree.body[1:]:
                    self.assertIsInstance(node, (ast.ImportFrom, ast.FunctionDef, ast.ClassDef, ast.Assign))
                    if isinstance(node, ast.ImportFrom):
                        self.assertRegex(node.module, r"\Arelationshelddesk\.[a-z]+\Z")
                        bound.extend(alias.name for alias in node.names)
                    elif isinstance(node, ast.Assign):
                        bound.append(node.targets[0].id)
                    else:
                        bound.append(node.name)
                self.assertEqual(len(bound), len(set(bound)))

    def test_names(self):
        for path, text, tree in each_file():
            with self.subTest(file=path.name):
                top = [node for node in tree.body if isinstance(node, (ast.ImportFrom, ast.ClassDef))]
                taken = set(dir(builtins))
                for node in top:
                    taken.update([node.name] if isinstance(node, ast.ClassDef) else [alias.name for alias in node.names])
                known = set(OWN_NAMES) | taken - set(dir(builtins))
                for node in ast.walk(tree):
                    if isinstance(node, ast.FunctionDef):
                        self.assertEqual([name for name in local_names(node) if name in taken], [])
                        self.assertTrue(node.name == "__init__" or not node.name.startswith("_"))
                        self.assertNotIn(node.name, dir(builtins))
                    if isinstance(node, ast.Name) and node.id in dir(builtins):
                        self.assertIn(node.id, known)

    def test_methods_and_imports(self):
        own = {}
        drawn = {}
        for path, text, tree in each_file():
            with self.subTest(file=path.name):
                drawn[path.stem] = [node.module.split(".")[1] for node in tree.body if isinstance(node, ast.ImportFrom)]
                for node in ast.walk(tree):
                    if isinstance(node, ast.ClassDef):
                        own.update({method.name: "method" for method in node.body})
        values = set()
        for path, text, tree in each_file():
            with self.subTest(file=path.name):
                for node in ast.walk(tree):
                    if isinstance(node, ast.Attribute) and isinstance(node.ctx, ast.Store):
                        values.add(node.attr)
                    if isinstance(node, ast.Call) and isinstance(node.func, ast.Attribute):
                        self.assertTrue(node.func.attr in METHODS or node.func.attr in own, node.func.attr)
        self.assertEqual(sorted(values & set(own)), [])
        self.check_no_ring(drawn)

    def check_no_ring(self, drawn):
        left = dict(drawn)
        while left:
            free = [name for name in left if not any(other in left for other in left[name])]
            self.assertNotEqual(free, [], f"drawn from one another: {sorted(left)}")
            for name in free:
                del left[name]


if __name__ == "__main__":
    unittest.main()
