"""The package against the rules of LANGUAGE.md that can be seen from its files."""

import ast
import builtins
import pathlib
import re
import unittest

ROOT = pathlib.Path(__file__).resolve().parent.parent
PACKAGE = ROOT / "tabulreports"

OWN_NAMES = """len range enumerate zip min max sum abs sorted reversed int str bool list tuple dict set frozenset
isinstance ord repr any all divmod Exception ValueError TypeError KeyError IndexError LookupError ZeroDivisionError
ArithmeticError OverflowError RuntimeError NotImplementedError AttributeError StopIteration""".split()

METHODS = """append clear copy count endswith extend find get index insert isalnum isalpha isdigit islower isspace
isupper items join keys ljust lower lstrip partition pop remove replace reverse rfind rjust rpartition rsplit rstrip
setdefault split splitlines startswith strip update upper values zfill bit_length""".split()

WORDS = """type typing typing_extensions enum Enum IntEnum StrEnum Flag IntFlag Generic Protocol ABC ABCMeta namedtuple
NamedTuple TypedDict TYPE_CHECKING abstractmethod""".split()

UNUSED = """register mro elements open input version_info with_traceback add_note attrgetter breakpoint builtins compile
copyright credits delattr dir eval exec exit gc getattr globals hasattr help id importlib license locals methodcaller
os quit setattr super vars sys format format_map""".split()

PYTHONS_OWN = [name for name in dir(builtins) if not name.startswith("__")]

NODES = (
    ast.Module, ast.FunctionDef, ast.ClassDef, ast.Return, ast.Assign, ast.AugAssign, ast.For, ast.While, ast.If,
    ast.Raise, ast.Try, ast.ExceptHandler, ast.ImportFrom, ast.alias, ast.Expr, ast.Pass, ast.Break, ast.Continue,
    ast.BoolOp, ast.BinOp, ast.UnaryOp, ast.Lambda, ast.IfExp, ast.Dict, ast.ListComp, ast.comprehension,
    ast.Compare, ast.Call, ast.keyword, ast.Constant, ast.Attribute, ast.Subscript, ast.Slice, ast.Name, ast.List,
    ast.Tuple, ast.JoinedStr, ast.FormattedValue, ast.arguments, ast.arg, ast.expr_context, ast.boolop,
    ast.operator, ast.unaryop, ast.cmpop,
)


def modules():
    return sorted(PACKAGE.glob("**/*.py"))


def is_plain(node):
    if isinstance(node, (ast.List, ast.Tuple)):
        return all(is_plain(inner) for inner in node.elts)
    if isinstance(node, ast.Dict):
        return all(is_plain(inner) for inner in node.keys + node.values)
    if isinstance(node, ast.UnaryOp) and isinstance(node.op, ast.USub):
        return is_plain(node.operand)
    return isinstance(node, ast.Constant)


def each_module(check):
    def run(self):
        for path in modules():
            with self.subTest(file=path.name):
                source = path.read_text(encoding="utf-8")
                check(self, source, ast.parse(source))
    return run


class Language(unittest.TestCase):
    def test_files(self):
        self.assertIn(PACKAGE / "__init__.py", modules())
        for path in PACKAGE.iterdir():
            if path.name != "__pycache__":
                self.assertRegex(path.name, r"^(__init__|[a-z][a-z0-9_]*)\.py$")
                self.assertFalse(path.stem in WORDS or path.stem in PYTHONS_OWN, path.name)

    @each_module
    def test_signs_and_sizes(self, source, tree):
        self.assertIsNone(re.search(r"[^\n -~]", source))
        self.assertLessEqual(len(source.splitlines()), 400)
        self.assertLessEqual(max(len(line) for line in source.splitlines()), 120)
        for node in ast.walk(tree):
            if isinstance(node, ast.FunctionDef):
                self.assertLessEqual(node.end_lineno - node.lineno + 1, 40, node.name)

    @each_module
    def test_words(self, source, tree):
        for word in re.findall(r"\w+", source):
            self.assertNotIn(word, WORDS)
            self.assertIsNone(re.search("dataclass|overload|contextmanager", word))

    @each_module
    def test_imports_are_the_packages_own(self, source, tree):
        for node in ast.walk(tree):
            if isinstance(node, ast.ImportFrom):
                self.assertEqual(node.level, 0)
                self.assertTrue(node.module.startswith("tabulreports."), node.module)
                self.assertIn(node, tree.body)
                drawn = ast.parse((ROOT / (node.module.replace(".", "/") + ".py")).read_text())
                defined = [getattr(inner, "name", None) for inner in drawn.body]
                defined += [inner.targets[0].id for inner in drawn.body if isinstance(inner, ast.Assign)]
                for alias in node.names:
                    self.assertIn(alias.name, defined)
                    self.assertIsNone(alias.asname)

    @each_module
    def test_the_top_of_a_module(self, source, tree):
        self.assertIsNotNone(ast.get_docstring(tree))
        bound = []
        for node in tree.body[1:]:
            self.assertIsInstance(node, (ast.ImportFrom, ast.FunctionDef, ast.ClassDef, ast.Assign))
            if isinstance(node, ast.Assign):
                self.assertTrue(is_plain(node.value), node.targets[0].id)
                bound.append(node.targets[0].id)
            elif not isinstance(node, ast.ImportFrom):
                bound.append(node.name)
        self.assertEqual(len(bound), len(set(bound)))

    @each_module
    def test_nodes(self, source, tree):
        for node in ast.walk(tree):
            self.assertIsInstance(node, NODES)
            self.assertNotIsInstance(node, (ast.Div, ast.MatMult))
            if isinstance(node, (ast.For, ast.While)):
                self.assertEqual(node.orelse, [])
            if isinstance(node, ast.Assign):
                self.assertEqual(len(node.targets), 1)
                self.assertNotIsInstance(node.targets[0], ast.Tuple)
            if isinstance(node, ast.ListComp):
                self.assertEqual(len(node.generators), 1)
                self.assertLessEqual(len(node.generators[0].ifs), 1)
            if isinstance(node, ast.FunctionDef):
                self.assertEqual(node.decorator_list, [])
                self.assertIsNone(node.args.vararg or node.args.kwarg or node.returns)
                self.assertEqual(node.args.kwonlyargs + node.args.posonlyargs, [])
            if isinstance(node, ast.Constant):
                self.assertNotIsInstance(node.value, (float, bytes, complex))
                self.assertFalse(isinstance(node.value, str) and "%" in node.value)
            if isinstance(node, ast.Compare):
                for op, right in zip(node.ops, node.comparators):
                    if isinstance(op, (ast.Is, ast.IsNot)):
                        self.assertIsInstance(right, ast.Constant)

    @each_module
    def test_names(self, source, tree):
        for node in ast.walk(tree):
            if isinstance(node, ast.Name):
                if node.id in PYTHONS_OWN:
                    self.assertIn(node.id, OWN_NAMES)
                    self.assertIsInstance(node.ctx, ast.Load)
                self.check_name(node.id)
            if isinstance(node, ast.arg):
                self.assertFalse(node.arg in PYTHONS_OWN, node.arg)
                self.check_name(node.arg)
            if isinstance(node, ast.Attribute):
                self.check_name(node.attr)
            if isinstance(node, (ast.FunctionDef, ast.ClassDef)) and node.name != "__init__":
                self.assertFalse(node.name in PYTHONS_OWN, node.name)
                self.check_name(node.name)

    def check_name(self, name):
        self.assertRegex(name, r"^[A-Za-z][A-Za-z0-9_]*$")
        self.assertNotIn(name, UNUSED)

    @each_module
    def test_what_is_walked_is_walked_on_the_spot(self, source, tree):
        allowed = []
        for node in ast.walk(tree):
            if isinstance(node, (ast.For, ast.comprehension)):
                allowed.append(node.iter)
            if isinstance(node, ast.Call) and isinstance(node.func, ast.Name) and node.args:
                if node.func.id in "list tuple dict sorted sum any all enumerate zip".split():
                    allowed.append(node.args[0])
                if node.func.id in ("min", "max") and len(node.args) == 1:
                    allowed.append(node.args[0])
        for node in ast.walk(tree):
            if isinstance(node, ast.Call):
                called = getattr(node.func, "id", None) or getattr(node.func, "attr", None)
                if called in "zip enumerate reversed range items keys values".split():
                    self.assertIn(node, allowed, (called, node.lineno))

    @each_module
    def test_powers_and_sets(self, source, tree):
        beside = []
        for node in ast.walk(tree):
            if isinstance(node, ast.BinOp) and isinstance(node.op, ast.Pow):
                self.assertIsInstance(node.right, ast.Constant)
            if isinstance(node, ast.Compare):
                beside += [node.left] + node.comparators
            if isinstance(node, ast.Call) and isinstance(node.func, ast.Name) and node.func.id in ("len", "sorted"):
                beside += node.args
        for node in ast.walk(tree):
            if isinstance(node, ast.Call) and isinstance(node.func, ast.Name) and node.func.id == "set":
                self.assertIn(node, beside)

    @each_module
    def test_locals_hide_no_class_and_no_import(self, source, tree):
        top = [node.name for node in tree.body if isinstance(node, ast.ClassDef)]
        top += [alias.name for node in tree.body if isinstance(node, ast.ImportFrom) for alias in node.names]
        for node in ast.walk(tree):
            if isinstance(node, ast.Name) and isinstance(node.ctx, ast.Store):
                self.assertNotIn(node.id, top)
            if isinstance(node, ast.arg):
                self.assertNotIn(node.arg, top)

    def test_no_two_files_draw_from_one_another(self):
        drawn = {}
        for path in modules():
            tree = ast.parse(path.read_text())
            drawn[path.stem] = [node.module.split(".")[1] for node in tree.body if isinstance(node, ast.ImportFrom)]
        while drawn:
            free = [name for name in drawn if not any(other in drawn for other in drawn[name])]
            self.assertTrue(free, drawn)
            for name in free:
                drawn.pop(name)

    def test_values_and_methods_have_names_of_their_own(self):
        methods, values = set(), set()
        taken = {name for kind in (str, int, list, dict, set, bytes) for name in dir(kind)}
        for path in modules():
            for node in ast.walk(ast.parse(path.read_text())):
                if isinstance(node, ast.ClassDef):
                    methods |= {inner.name for inner in node.body if isinstance(inner, ast.FunctionDef)}
                if isinstance(node, ast.Attribute) and isinstance(node.ctx, ast.Store):
                    values.add(node.attr)
        methods.discard("__init__")
        self.assertEqual(methods & values, set())
        self.assertEqual((methods | values) & taken, set())

    def test_methods(self):
        own = [node.name for path in modules() for node in ast.walk(ast.parse(path.read_text()))
               if isinstance(node, ast.FunctionDef)]
        for path in modules():
            for node in ast.walk(ast.parse(path.read_text())):
                if isinstance(node, ast.Call) and isinstance(node.func, ast.Attribute):
                    self.assertIn(node.func.attr, METHODS + own)


if __name__ == "__main__":
    unittest.main()
