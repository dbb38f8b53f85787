"""The package against the rules of LANGUAGE.md that can be seen from its files."""

import ast
import builtins
import pathlib
import re
import unittest

ROOT = pathlib.Path(__file__).resolve().parent.parent
PACKAGE = ROOT / "tabulreports"

OWN_NAMES = """len range enumerate zip min max sum abs sorted reversed int str bool list tuple dict set frozenset
isinstance ord repr any all divmod Exception ValueError TypeError KeyError IndexError LookupError ZeroDivisionError
ArithmeticError OverflowError RuntimeError NotImplementedError AttributeError StopIteration""".split()

METHODS = """append clear copy count endswith extend find get index insert isalnum isalpha isdigit islower isspace
isupper items join keys ljust lower lstrip partition pop remove replace reverse rfind rjust rpartition rsplit rstrip
setdefault split splitlines startswith strip update upper values zfill bit_length""".split()

WORDS = """type typing typing_extensions enum Enum IntEnum StrEnum Flag IntFlag Generic Protocol ABC ABCMeta namedtuple
NamedTuple TypedDict TYPE_CHECKING abstractmethod""".split()

UNUSED = """register mro elements open input version_info with_traceback add_note attrgetter breakpoint builtins compile
copyright credits delattr dir eval exec exit gc getattr globals hasattr help id importlib license locals methodcaller
os quit setattr super vars sys format format_map""".split()

PYTHONS_OWN = [name for name in dir(builtins) if not name.startswith("__")]

NODES = (
    ast.Module, ast.FunctionDef, ast.ClassDef, ast.Return, ast.Assign, ast.AugAssign, ast.For, ast.While, ast.If,
    ast.Raise, ast.Try, ast.ExceptHandler, ast.ImportFrom, ast.alias, ast.Expr, ast.Pass, ast.Break, ast.Continue,
    ast.BoolOp, ast.BinOp, ast.UnaryOp, ast.Lambda, ast.IfExp, ast.Dict, ast.ListComp, ast.comprehension,
    ast.Compare, ast.Call, ast.keyword, ast.Constant, ast.Attribute, ast.Subscript, ast.Slice, ast.Name, ast.List,
    ast.Tuple, ast.JoinedStr, ast.FormattedValue, ast.arguments, ast.arg, ast.expr_context, ast.boolop,
    ast.operator, ast.unaryop, ast.cmpop,
)


def modules():
    return sorted(PACKAGE.glob("**/*.py"))


def is_plain(node):
    if isinstance(node, (ast.List, ast.Tuple)):
        return all(is_plain(inner) for inner in node.elts)
    if isinstance(node, ast.Dict):
        return all(is_plain(inner) for inner in node.keys + node.values)
    if isinstance(node, ast.UnaryOp) and isinstance(node.op, ast.USub):
        return is_plain(node.operand)
    return isinstance(node, ast.Constant)


def each_module(check):
    def run(self):
        for path in modules():
            with self.subTest(file=path.name):
                source = path.read_text(encoding="utf-8")
                check(self, source, ast.parse(source))
    return run


class Language(unittest.TestCase):
    def test_files(self):
        self.assertIn(PACKAGE / "__init__.py", modules())
        for path in PACKAGE.iterdir():
            if path.name != "__pycache__":
                self.assertRegex(path.name, r"^(__init__|[a-z][a-z0-9_]*)\.py$")
                self.assertFalse(path.stem in WORDS or path.stem in PYTHONS_OWN, path.name)

    @each_module
    def test_signs_and_sizes(self, source, tree):
        self.assertIsNone(re.search(r"[^\n -~]", source))
        self.assertLessEqual(len(source.splitlines()), 400)
        self.assertLessEqual(max(len(line) for line in source.splitlines()), 120)
        for node in ast.walk(tree):
            if isinstance(node, ast.FunctionDef):
                self.assertLessEqual(node.end_lineno - node.lineno + 1, 40, node.name)

    @each_module
    def test_words(self, source, tree):
        for word in re.findall(r"\w+", source):
            self.assertNotIn(word, WORDS)
            self.assertIsNone(re.search("dataclass|overload|contextmanager", word))

    @each_module
    def test_imports_are_the_packages_own(self, source, tree):
        for node in ast.walk(tree):
            if isinstance(node, ast.ImportFrom):
                self.assertEqual(node.level, 0)
                self.assertTrue(node.module.startswith("tabulreports."), node.module)
                self.assertIn(node, tree.body)
                drawn = ast.parse((ROOT / (node.module.replace(".", "/") + ".py")).read_text())
                defined = [getattr(inner, "name", None) for inner in drawn.body]
                defined += [inner.targets[0].id for inner in drawn.body if isinstance(inner, ast.Assign)]
                for alias in node.names:
                    self.assertIn(alias.name, defined)
                    self.assertIsNone(alias.asname)

    @each_module
    def test_the_top_of_a_module(self, source, tree):
        self.assertIsNotNone(ast.get_docstring(tree))
        bound = []
        for node in tree.body[1:]:
            self.assertIsInstance(node, (ast.ImportFrom, ast.FunctionDef, ast.ClassDef, ast.Assign))
            if isinstance(node, ast.Assign):
                self.assertTrue(is_plain(node.value), node.targets[0].id)
                bound.append(node.targets[0].id)
            elif not isinstance(node, ast.ImportFrom):
                bound.append(node.name)
        self.assertEqual(len(bound), len(set(bound)))

    @each_module
    def test_nodes(self, source, tree):
        for node in ast.walk(tree):
            self.assertIsInstance(node, NODES)
            self.assertNotIsInstance(node, (ast.Div, ast.MatMult))
            if isinstance(node, (ast.For, ast.While)):
                self.assertEqual(node.orelse, [])
            if isinstance(node, ast.Assign):
                self.assertEqual(len(node.targets), 1)
                self.assertNotIsInstance(node.targets[0], ast.Tuple)
            if isinstance(node, ast.ListComp):
                self.assertEqual(len(node.generators), 1)
                self.assertLessEqual(len(node.generators[0].ifs), 1)
            if isinstance(node, ast.FunctionDef):
                self.assertEqual(node.decorator_list, [])
                self.assertIsNone(node.args.vararg or node.args.kwarg or node.returns)
                self.assertEqual(node.args.kwonlyargs + node.args.posonlyargs, [])
            if isinstance(node, ast.Constant):
                self.assertNotIsInstance(node.value, (float, bytes, complex))
                self.assertFalse(isinstance(node.value, str) and "%" in node.value)
            if isinstance(node, ast.Compare):
                for op, right in zip(node.ops, node.comparators):
                    if isinstance(op, (ast.Is, ast.IsNot)):
                        self.assertIsInstance(right, ast.Constant)

    @each_module
    def test_names(self, source, tree):
        for node in ast.walk(tree):
            if isinstance(node, ast.Name):
                if node.id in PYTHONS_OWN:
                    self.assertIn(node.id, OWN_NAMES)
                    self.assertIsInstance(node.ctx, ast.Load)
                self.check_name(node.id)
            if isinstance(node, ast.arg):
                self.assertFalse(node.arg in PYTHONS_OWN, node.arg)
                self.check_name(node.arg)
            if isinstance(node, ast.Attribute):
                self.check_name(node.attr)
            if isinstance(node, (ast.FunctionDef, ast.ClassDef)) and node.name != "__init__":
                self.assertFalse(node.name in PYTHONS_OWN, node.name)
                self.check_name(node.name)

    def check_name(self, name):
        self.assertRegex(name, r"^[A-Za-z][A-Za-z0-9_]*$")
        self.assertNotIn(name, UNUSED)

    def test_methods(self):
        own = [node.name for path in modules() for node in ast.walk(ast.parse(path.read_text()))
               if isinstance(node, ast.FunctionDef)]
        for path in modules():
            for node in ast.walk(ast.parse(path.read_text())):
                if isinstance(node, ast.Call) and isinstance(node.func, ast.Attribute):
                    self.assertIn(node.func.attr, METHODS + own)


if __name__ == "__main__":
    unittest.main()
