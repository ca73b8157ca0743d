"""The package's own form: the small part of Python that it keeps to, as far as it can be read off its files."""

import ast
import builtins
import pathlib
import re
import unittest

PACKAGE = pathlib.Path(__file__).resolve().parent.parent / 'handsoutline'

NODES = '''Module FunctionDef ClassDef arguments arg Expr Assign AugAssign If While For Return Break Continue Pass Raise Try
ExceptHandler ImportFrom alias Constant Name Attribute Subscript Slice Load Store Call keyword List Tuple Dict ListComp
comprehension Lambda IfExp Compare BoolOp UnaryOp BinOp And Or Not USub Invert Add Sub Mult FloorDiv Mod Pow BitAnd
BitOr BitXor LShift RShift Eq NotEq Lt LtE Gt GtE In NotIn Is IsNot JoinedStr FormattedValue'''.split()

OWN_NAMES = '''len range enumerate zip min max sum abs sorted reversed int str bool list tuple dict set frozenset isinstance
ord repr any all divmod Exception ValueError TypeError KeyError IndexError LookupError ZeroDivisionError ArithmeticError
OverflowError RuntimeError NotImplementedError AttributeError StopIteration'''.split()

METHODS = '''append clear copy count endswith extend find get index insert isalnum isalpha isdigit islower isspace isupper
items join keys ljust lower lstrip partition pop remove replace reverse rfind rjust rpartition rsplit rstrip setdefault
split splitlines startswith strip update upper values zfill bit_length'''.split()

NEVER_WORDS = '''type typing typing_extensions enum Enum IntEnum StrEnum Flag IntFlag Generic Protocol ABC ABCMeta
namedtuple NamedTuple TypedDict TYPE_CHECKING abstractmethod'''.split()

NEVER_PARTS = ('dataclass', 'overload', 'contextmanager')

NEVER_NAMES = '''register mro elements open input version_info with_traceback add_note format format_map attrgetter
breakpoint compile delattr dir eval exec exit gc getattr globals hasattr help id importlib license locals os quit setattr
super sys vars chr print'''.split()

NEVER_VALUES = '''items keys values pop update append clear extend insert remove reverse setdefault sort args encode
format'''.split()


def read_files():
    return {path.stem: path.read_text(encoding='utf-8') for path in sorted(PACKAGE.glob('*.py'))}


FILES = read_files()
TREES = {name: ast.parse(text) for name, text in FILES.items()}


def nodes(tree, *kinds):
    return [node for node in ast.walk(tree) if isinstance(node, kinds)]


def top_names(tree):
    found = [node.name for node in tree.body if isinstance(node, (ast.FunctionDef, ast.ClassDef))]
    return found + [target.id for node in tree.body if isinstance(node, ast.Assign) for target in node.targets]


def imports(tree):
    return [node for node in tree.body if isinstance(node, ast.ImportFrom)]


def imported(tree):
    return [alias.name for node in imports(tree) for alias in node.names]


def is_plain(value):
    if isinstance(value, ast.UnaryOp):
        return isinstance(value.op, ast.USub) and is_plain(value.operand)
    if isinstance(value, ast.Dict):
        return all(is_plain(part) for part in value.keys + value.values)
    if isinstance(value, (ast.List, ast.Tuple)):
        return all(is_plain(part) for part in value.elts)
    return isinstance(value, ast.Constant) and not isinstance(value.value, (float, bytes))


class Form(unittest.TestCase):
    def test_files(self):
        for path in PACKAGE.iterdir():
            if path.name != '__pycache__':
                self.assertRegex(path.name, r'\A([a-z][a-z0-9_]*|__init__|__main__)\.py\Z')
                self.assertFalse(path.stem.startswith('test') or path.stem in dir(builtins), path.name)
        self.assertTrue((PACKAGE / '__init__.py').exists())

    def test_sizes_and_signs(self):
        for name, text in FILES.items():
            self.assertLessEqual(len(text.splitlines()), 400, name)
            self.assertRegex(text, r'\A[\n -~]*\Z', name)
            for line in text.splitlines():
                self.assertLessEqual(len(line), 120, line)
            for node in nodes(TREES[name], ast.FunctionDef):
                self.assertLessEqual(node.end_lineno - node.lineno + 1, 40, (name, node.name))

    def test_words(self):
        for name, text in FILES.items():
            words = set(re.findall(r'\w+', text))
            self.assertEqual(sorted(words & set(NEVER_WORDS)), [], name)
            self.assertEqual([part for part in NEVER_PARTS if part in text], [], name)

    def test_imports(self):
        for name, tree in TREES.items():
            for node in imports(tree):
                package, module = node.module.split('.')
                self.assertEqual((package, node.level), ('handsoutline', 0), name)
                for alias in node.names:
                    self.assertIn(alias.name, top_names(TREES[module]), name)
                    self.assertIsNone(alias.asname, name)
            self.assertEqual(len(nodes(tree, ast.ImportFrom)), len(imports(tree)), name)

    def test_no_two_files_draw_from_one_another(self):
        left = {name: {node.module.split('.')[1] for node in imports(tree)} for name, tree in TREES.items()}
        while left:
            free = [name for name in left if not left[name] & set(left)]
            self.assertTrue(free, left)
            left = {name: drawn for name, drawn in left.items() if name not in free}

    def test_top_of_files(self):
        for name, tree in TREES.items():
            self.assertIsNotNone(ast.get_docstring(tree), name)
            self.assertEqual(len(top_names(tree)), len(set(top_names(tree))), name)
            for node in tree.body[1:]:
                self.assertIsInstance(node, (ast.ImportFrom, ast.FunctionDef, ast.ClassDef, ast.Assign), name)
                self.assertTrue(not isinstance(node, ast.Assign) or is_plain(node.value), (name, node.lineno))
            self.assertFalse(set(top_names(tree)) & set(imported(tree)), name)

    def test_what_is_used_of_the_language(self):
        for name, tree in TREES.items():
            for node in ast.walk(tree):
                self.assertIn(node.__class__.__name__, NODES, (name, getattr(node, 'lineno', 0)))
            for node in nodes(tree, ast.Expr):
                self.assertTrue(isinstance(node.value, ast.Call) or node == tree.body[0], (name, node.lineno))
            for node in nodes(tree, ast.Assign):
                self.assertEqual(len(node.targets), 1, (name, node.lineno))
                self.assertNotIsInstance(node.targets[0], (ast.Tuple, ast.List), (name, node.lineno))
            for node in nodes(tree, ast.For, ast.While):
                self.assertEqual(node.orelse, [], (name, node.lineno))
            for node in nodes(tree, ast.ListComp):
                self.assertEqual(len(node.generators), 1, (name, node.lineno))
                self.assertLessEqual(len(node.generators[0].ifs), 1, (name, node.lineno))

    def test_functions_and_classes(self):
        for name, tree in TREES.items():
            for node in nodes(tree, ast.FunctionDef):
                used = node.args
                self.assertEqual((node.decorator_list, node.returns), ([], None), (name, node.name))
                self.assertEqual((used.vararg, used.kwarg, used.kwonlyargs, used.posonlyargs), (None, None, [], []))
            for node in nodes(tree, ast.ClassDef):
                self.assertTrue(all(isinstance(part, ast.FunctionDef) for part in node.body), node.name)

    def test_names(self):
        for name, tree in TREES.items():
            locals_ = [node.id for node in nodes(tree, ast.Name) if isinstance(node.ctx, ast.Store)]
            locals_ += [node.arg for node in nodes(tree, ast.arg)]
            classes = [node.name for node in nodes(tree, ast.ClassDef)]
            for bound in locals_ + top_names(tree):
                self.assertFalse(bound.startswith('_'), (name, bound))
                self.assertNotIn(bound, dir(builtins), name)
                self.assertNotIn(bound, imported(tree), name)
            self.assertFalse(set(locals_) & set(classes), name)
            for node in nodes(tree, ast.Name):
                self.assertNotIn(node.id, NEVER_NAMES, name)
                self.assertTrue(node.id not in dir(builtins) or node.id in OWN_NAMES, (name, node.id))

    def test_methods_and_values(self):
        methods = {part.name for tree in TREES.values() for node in nodes(tree, ast.ClassDef) for part in node.body}
        given = set()
        for tree in TREES.values():
            given |= {node.attr for node in nodes(tree, ast.Attribute) if isinstance(node.ctx, ast.Store)}
        self.assertFalse(methods & given)
        self.assertFalse(given & set(NEVER_VALUES + NEVER_NAMES))
        for name, tree in TREES.items():
            called = {node.func.attr for node in nodes(tree, ast.Call) if isinstance(node.func, ast.Attribute)}
            self.assertEqual(sorted(called - set(METHODS) - methods), [], name)
