"""Holds the package's files against those of the language's rules that a file's own form tells."""

import ast
import builtins
import pathlib
import re
import unittest

FOLDER = pathlib.Path(__file__).resolve().parent.parent / "placeclocks"
FILES = sorted(path for path in FOLDER.rglob("*") if "__pycache__" not in path.parts)
TREES = [(path, ast.parse(path.read_text(encoding="utf-8"))) for path in FILES]
STATEMENTS = (ast.FunctionDef, ast.ClassDef, ast.Assign, ast.If, ast.While, ast.For, ast.Return, ast.Break,
              ast.Continue, ast.Pass, ast.Raise, ast.Try, ast.ImportFrom, ast.Expr)
VALUES = (ast.Constant, ast.Name, ast.List, ast.Tuple, ast.Dict, ast.BinOp, ast.UnaryOp, ast.BoolOp, ast.Compare,
          ast.IfExp, ast.Call, ast.Attribute, ast.Subscript, ast.Slice, ast.ListComp, ast.JoinedStr,
          ast.FormattedValue, ast.Lambda)
BUILTINS = set("""len range enumerate zip min max sum abs sorted reversed int str bool list tuple dict set frozenset
    isinstance ord repr any all divmod Exception ValueError TypeError KeyError IndexError LookupError ZeroDivisionError
    ArithmeticError OverflowError RuntimeError NotImplementedError AttributeError StopIteration""".split())
METHODS = set("""append clear copy count endswith extend find get index insert isalnum isalpha isdigit islower isspace
    isupper items join keys ljust lower lstrip partition pop remove replace reverse rfind rjust rpartition rsplit rstrip
    setdefault split splitlines startswith strip update upper values zfill bit_length""".split())
TAKEN = {name for kind in (str, int, list, dict, set, bytes, tuple) for name in dir(kind)}
WORDS_OUT = set("""type typing typing_extensions enum Enum IntEnum StrEnum Flag IntFlag Generic Protocol ABC ABCMeta
    namedtuple NamedTuple TypedDict TYPE_CHECKING abstractmethod""".split())
NAMES_OUT = set("""register mro elements open input version_info with_traceback add_note attrgetter breakpoint builtins
    compile copyright credits delattr dir eval exec exit gc getattr globals hasattr help id importlib license locals
    methodcaller os quit setattr super type vars sys __name__""".split())


def nodes(tree, kind):
    return [node for node in ast.walk(tree) if isinstance(node, kind)]


def imported(tree):
    return [alias.name for node in nodes(tree, ast.ImportFrom) for alias in node.names]


def bound_within(tree):
    """Parameters, and names that are given a value within a function."""
    inner = [node for scope in nodes(tree, (ast.FunctionDef, ast.Lambda, ast.ListComp)) for node in ast.walk(scope)]
    names = {node.arg for node in inner if isinstance(node, ast.arg)}
    return names | {node.id for node in inner if isinstance(node, ast.Name) and isinstance(node.ctx, ast.Store)}


def bound_at_top(tree):
    names = [node.name for node in tree.body if isinstance(node, (ast.FunctionDef, ast.ClassDef))]
    names += [target.id for node in tree.body if isinstance(node, ast.Assign) for target in node.targets]
    return names + imported(tree)


class LanguageTest(unittest.TestCase):
    def test_files(self):
        for path in FILES:
            with self.subTest(file=path.name):
                self.assertTrue(path.is_file() and re.fullmatch("[a-z0-9_]+[.]py", path.name))
                text = path.read_bytes().decode("ascii")
                self.assertTrue(all(" " <= sign <= "~" or sign == "\n" for sign in text))
                self.assertLessEqual(len(text.splitlines()), 399)
                self.assertLessEqual(max(map(len, text.splitlines())), 120)
                words = re.findall("[A-Za-z_0-9]+", text)
                self.assertFalse(WORDS_OUT & set(words))
                self.assertFalse([word for word in words if re.search("dataclass|overload|contextmanager", word)])

    def test_statements_and_values(self):
        for path, tree in TREES:
            with self.subTest(file=path.name):
                for node in nodes(tree, ast.stmt):
                    self.assertIsInstance(node, STATEMENTS, node.lineno)
                for node in nodes(tree, ast.expr):
                    self.assertIsInstance(node, VALUES, node.lineno)
                for node in nodes(tree, ast.Constant):
                    self.assertIn(type(node.value), (int, str, bool, type(None)))
                    self.assertNotIn("%", str(node.value))
                self.assertFalse(nodes(tree, (ast.Div, ast.MatMult, ast.Pow, ast.Starred)))
                for node in nodes(tree, ast.Assign):
                    self.assertEqual(len(node.targets), 1)
                for node in nodes(tree, (ast.For, ast.While, ast.Try)):
                    self.assertFalse(isinstance(node, (ast.For, ast.While)) and node.orelse)
                for node in nodes(tree, ast.ListComp):
                    self.assertTrue(len(node.generators) == 1 and len(node.generators[0].ifs) <= 1)
                for node in nodes(tree, ast.Expr):
                    self.assertTrue(isinstance(node.value, ast.Call) or node is tree.body[0])

    def test_functions_and_classes(self):
        for path, tree in TREES:
            with self.subTest(file=path.name):
                for node in nodes(tree, (ast.FunctionDef, ast.ClassDef)):
                    self.assertFalse(node.decorator_list)
                for node in nodes(tree, ast.FunctionDef):
                    self.assertLessEqual(node.end_lineno - node.lineno + 1, 40, node.name)
                    self.assertFalse(node.args.vararg or node.args.kwarg or node.args.kwonlyargs or node.args.defaults)
                for node in nodes(tree, ast.ClassDef):
                    self.assertIn(node, tree.body)
                    self.assertTrue(all(isinstance(each, ast.FunctionDef) for each in node.body))

    def test_imports(self):
        for path, tree in TREES:
            with self.subTest(file=path.name):
                for node in nodes(tree, ast.ImportFrom):
                    self.assertIn(node, tree.body)
                    source = FOLDER / (node.module.removeprefix("placeclocks.") + ".py")
                    self.assertTrue(node.level == 0 and source in FILES)
                    own = ast.parse(source.read_text(encoding="utf-8"))
                    for alias in node.names:
                        self.assertTrue(alias.asname is None and alias.name in bound_at_top(own))
                        self.assertNotIn(alias.name, imported(own))

    def test_names(self):
        for path, tree in TREES:
            with self.subTest(file=path.name):
                top = bound_at_top(tree)
                within = bound_within(tree)
                self.assertEqual(len(top), len(set(top)))
                self.assertFalse(within & set(imported(tree)))
                self.assertFalse(within & {node.name for node in nodes(tree, ast.ClassDef)})
                self.assertFalse((within | set(top)) & set(dir(builtins)))
                self.assertFalse((within | set(top)) & NAMES_OUT)
                read = {node.id for node in nodes(tree, ast.Name)} - within - set(top)
                self.assertLessEqual(read, BUILTINS)
                for name in within | set(top):
                    self.assertTrue(re.fullmatch("[A-Za-z][A-Za-z0-9_]*", name), name)

    def test_methods_and_values_of_objects(self):
        trees = [tree for path, tree in TREES]
        classes = [node for tree in trees for node in nodes(tree, ast.ClassDef)]
        methods = {each.name for node in classes for each in node.body}
        given = {node.attr for tree in trees for node in nodes(tree, ast.Attribute) if isinstance(node.ctx, ast.Store)}
        read = {node.attr for tree in trees for node in nodes(tree, ast.Attribute)}
        self.assertFalse(methods & given)
        self.assertFalse((methods | given) & (TAKEN - {"__init__"}))
        self.assertLessEqual(read, methods | given | METHODS)


if __name__ == "__main__":
    unittest.main()
