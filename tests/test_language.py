"""The package keeps to a small part of Python: the rules that can be read off its files."""

import ast
import builtins
import re
import unittest
from pathlib import Path

PACKAGE = Path(__file__).resolve().parent.parent / "hiddencard"

NODES = set("""Module Expr Constant Name Load Store arguments arg FunctionDef ClassDef Assign AugAssign If While For
    Return Break Continue Pass Raise Try ExceptHandler Call keyword Attribute Subscript Slice Import ImportFrom alias
    List Tuple Dict Set ListComp comprehension IfExp Compare BoolOp BinOp UnaryOp Lambda JoinedStr FormattedValue
    And Or Not USub Invert Add Sub Mult FloorDiv Mod Pow BitAnd BitOr BitXor LShift RShift
    Eq NotEq Lt LtE Gt GtE Is IsNot In NotIn""".split())
OWN_NAMES = set("""len range enumerate zip min max sum abs sorted reversed int str bool list tuple dict set frozenset
    isinstance ord repr any all divmod Exception ValueError TypeError KeyError IndexError LookupError
    ZeroDivisionError ArithmeticError OverflowError RuntimeError NotImplementedError AttributeError
    StopIteration""".split())
METHODS = set("""append clear copy count endswith extend find get index insert isalnum isalpha isdigit islower isspace
    isupper items join keys ljust lower lstrip partition pop remove replace reverse rfind rjust rpartition rsplit
    rstrip setdefault split splitlines startswith strip update upper values zfill bit_length""".split())
WORDS = re.compile(r"\b(type|typing|typing_extensions|enum|Enum|IntEnum|StrEnum|Flag|IntFlag|Generic|Protocol|ABC|"
                   r"ABCMeta|namedtuple|NamedTuple|TypedDict|TYPE_CHECKING|abstractmethod)\b"
                   r"|dataclass|overload|contextmanager")
NOT_AS_NAMES = set("""register mro elements open input version_info with_traceback add_note attrgetter breakpoint
    builtins compile copyright credits delattr dir eval exec exit gc getattr globals hasattr help id importlib license
    locals methodcaller os quit setattr super type vars sys""".split())


def package_files():
    return sorted(path for path in PACKAGE.rglob("*.py"))


def bound_names(tree):
    """The names that the file gives a meaning."""
    names = set()
    for node in ast.walk(tree):
        if isinstance(node, (ast.FunctionDef, ast.ClassDef)):
            names.add(node.name)
        elif isinstance(node, ast.arg):
            names.add(node.arg)
        elif isinstance(node, ast.alias):
            names.add(node.asname or node.name)
        elif isinstance(node, ast.Name) and isinstance(node.ctx, ast.Store):
            names.add(node.id)
    return names


class Language(unittest.TestCase):
    def each_tree(self):
        for path in package_files():
            with self.subTest(file=path.name):
                yield ast.parse(path.read_text(encoding="utf-8"))

    def test_only_python_files_with_plain_names(self):
        found = [path for path in PACKAGE.rglob("*") if "__pycache__" not in path.parts]
        for path in found:
            self.assertTrue(re.fullmatch(r"[a-z][a-z0-9_]*\.py|__init__\.py", path.name), path)
        self.assertIn(PACKAGE / "trick.py", found)

    def test_sizes_signs_and_words(self):
        for path in package_files():
            with self.subTest(file=path.name):
                text = path.read_text(encoding="utf-8")
                self.assertTrue(re.fullmatch(r"[ -~\n]*", text))
                self.assertIsNone(WORDS.search(text))
                self.assertLess(len(text.splitlines()), 400)
                self.assertLessEqual(max(len(line) for line in text.splitlines()), 120)

    def test_functions_are_short_and_plain(self):
        for tree in self.each_tree():
            for node in ast.walk(tree):
                if isinstance(node, ast.FunctionDef):
                    self.assertLessEqual(node.end_lineno - node.lineno + 1, 40, node.name)
                    self.assertEqual(node.decorator_list, [])
                    self.assertFalse(node.args.vararg or node.args.kwarg or node.args.kwonlyargs, node.name)

    def test_statements_and_expressions(self):
        for tree in self.each_tree():
            for node in ast.walk(tree):
                self.assertIn(node.__class__.__name__, NODES, getattr(node, "lineno", None))
                if isinstance(node, (ast.For, ast.While)):
                    self.assertEqual(node.orelse, [])
                if isinstance(node, ast.Assign):
                    self.assertEqual(len(node.targets), 1)
                if isinstance(node, ast.ListComp):
                    self.assertEqual(len(node.generators), 1)
                    self.assertLessEqual(len(node.generators[0].ifs), 1)
                if isinstance(node, ast.Constant):
                    self.assertIn(node.value.__class__, (int, str, bool, None.__class__))

    def test_names(self):
        for tree in self.each_tree():
            bound = bound_names(tree)
            self.assertEqual(bound & (set(dir(builtins)) | NOT_AS_NAMES), set())
            for name in bound - {"__init__"}:
                self.assertTrue(re.fullmatch(r"[A-Za-z][A-Za-z0-9_]*", name), name)
            for node in ast.walk(tree):
                if isinstance(node, ast.Name):
                    self.assertIn(node.id, bound | OWN_NAMES)

    def test_no_local_is_called_like_a_class_or_an_import(self):
        for tree in self.each_tree():
            taken = {node.name for node in tree.body if isinstance(node, ast.ClassDef)}
            taken |= {alias.name for node in tree.body if isinstance(node, ast.ImportFrom) for alias in node.names}
            for function in ast.walk(tree):
                if isinstance(function, ast.FunctionDef):
                    self.assertEqual((bound_names(function) - {function.name}) & taken, set(), function.name)

    def test_methods(self):
        own = set()
        trees = list(self.each_tree())
        for tree in trees:
            own |= bound_names(tree)
            own |= {node.attr for node in ast.walk(tree)
                    if isinstance(node, ast.Attribute) and isinstance(node.ctx, ast.Store)}
        for tree in trees:
            for node in ast.walk(tree):
                if isinstance(node, ast.Attribute):
                    self.assertIn(node.attr, METHODS | own)

    def test_imports_are_the_package_s_own_and_never_go_round(self):
        drawn = {}
        for path in package_files():
            tree = ast.parse(path.read_text(encoding="utf-8"))
            imports = [node for node in ast.walk(tree) if isinstance(node, (ast.Import, ast.ImportFrom))]
            drawn[path.stem] = set()
            for node in imports:
                self.assertIsInstance(node, ast.ImportFrom)
                self.assertEqual((node.level, node.module.split(".")[0]), (0, "hiddencard"))
                self.assertIn(node, tree.body)
                source = node.module.split(".")[1]
                drawn[path.stem].add(source)
                self.assert_defined_there(source, node.names)
        while drawn:
            ends = [name for name in drawn if not drawn[name] & set(drawn)]
            self.assertTrue(ends, drawn)
            for name in ends:
                drawn.pop(name)

    def assert_defined_there(self, source, names):
        body = ast.parse((PACKAGE / f"{source}.py").read_text(encoding="utf-8")).body
        defined = {node.name for node in body if isinstance(node, (ast.FunctionDef, ast.ClassDef))}
        defined |= {node.targets[0].id for node in body if isinstance(node, ast.Assign)}
        for alias in names:
            self.assertIsNone(alias.asname)
            self.assertIn(alias.name, defined)


if __name__ == "__main__":
    unittest.main()
