"""The package keeps to its small part of Python: the rules that a look at the files can tell."""

import ast
import builtins
import re
import unittest
from pathlib import Path

PACKAGE = Path(__file__).resolve().parent.parent / "planesheard"

NODES = """Module Import ImportFrom alias FunctionDef ClassDef arguments arg Assign AugAssign If While For Return Break
Continue Pass Raise Try ExceptHandler Expr Constant Name Attribute Subscript Slice Call keyword BinOp UnaryOp BoolOp
Compare IfExp List Tuple Dict ListComp comprehension JoinedStr FormattedValue Lambda Load Store Add Sub Mult FloorDiv
Mod Pow BitAnd BitOr BitXor LShift RShift Invert UAdd USub Not And Or Eq NotEq Lt LtE Gt GtE Is IsNot In
NotIn""".split()
OWN_NAMES = """len range enumerate zip min max sum abs sorted reversed int str bool list tuple dict set frozenset
isinstance ord repr any all divmod Exception ValueError TypeError KeyError IndexError LookupError ZeroDivisionError
ArithmeticError OverflowError RuntimeError NotImplementedError AttributeError StopIteration""".split()
METHODS = """append clear copy count endswith extend find get index insert isalnum isalpha isdigit islower isspace
isupper items join keys ljust lower lstrip partition pop remove replace reverse rfind rjust rpartition rsplit rstrip
setdefault split splitlines startswith strip update upper values zfill bit_length""".split()
WORDS = """type typing typing_extensions enum Enum IntEnum StrEnum Flag IntFlag Generic Protocol ABC ABCMeta
namedtuple NamedTuple TypedDict TYPE_CHECKING abstractmethod""".split()
PIECES = ("dataclass", "overload", "contextmanager")
UNUSED = """register mro elements open input version_info with_traceback add_note attrgetter breakpoint builtins
compile copyright credits delattr dir eval exec exit gc getattr globals hasattr help id importlib license locals
methodcaller os quit setattr super type vars sys format format_map __name__""".split()
TAKEN = {name for kind in (str, int, list, dict, set, bytes, tuple) for name in dir(kind)}


def files():
    return sorted(path for path in PACKAGE.rglob("*") if "__pycache__" not in path.parts)


def trees():
    return [(path.name, ast.parse(path.read_text())) for path in files()]


def nodes(*kinds):
    return [(name, node) for name, tree in trees() for node in ast.walk(tree) if isinstance(node, kinds)]


def bound_names(tree):
    """Every name that a file binds, with how often it does so at its top."""
    top = []
    for node in tree.body:
        if isinstance(node, (ast.FunctionDef, ast.ClassDef)):
            top.append(node.name)
        elif isinstance(node, ast.Assign):
            top.extend(target.id for target in node.targets)
        elif isinstance(node, ast.ImportFrom):
            top.extend(alias.asname or alias.name for alias in node.names)
    return top


class Files(unittest.TestCase):
    def test_names_and_signs(self):
        for path in files():
            self.assertRegex(path.name, r"^[a-z0-9_]+\.py$")
            self.assertFalse(path.stem in WORDS or path.stem.startswith("test"))
            self.assertFalse(hasattr(builtins, path.stem) and path.stem != "__init__")
            self.assertIsNone(re.search(r"[^\n -~]", path.read_text()), path)

    def test_sizes(self):
        for path in files():
            lines = path.read_text().split("\n")
            self.assertLessEqual(len(lines), 400)
            self.assertLessEqual(max(map(len, lines)), 120)
        for name, node in nodes(ast.FunctionDef):
            self.assertLessEqual(node.end_lineno - node.lineno + 1, 40, (name, node.name))

    def test_words_that_stand_nowhere(self):
        for path in files():
            text = path.read_text()
            self.assertEqual(set(re.findall(r"\w+", text)) & set(WORDS), set(), path)
            self.assertFalse([piece for piece in PIECES if piece in text.lower()], path)


class Tops(unittest.TestCase):
    def test_what_stands_there(self):
        for name, tree in trees():
            self.assertIsInstance(tree.body[0], ast.Expr, name)
            for node in tree.body[1:]:
                self.assertIsInstance(node, (ast.ImportFrom, ast.FunctionDef, ast.ClassDef, ast.Assign), name)
                if isinstance(node, ast.Assign):
                    ast.literal_eval(node.value)
                    inner = getattr(node.value, "elts", []) + getattr(node.value, "values", [])
                    self.assertFalse([one for one in inner if isinstance(one, (ast.List, ast.Dict, ast.Set))])

    def test_each_name_once_and_plain(self):
        for name, tree in trees():
            top = bound_names(tree)
            self.assertEqual(len(top), len(set(top)), name)
            self.assertFalse([one for one in top if one.startswith("_") or hasattr(builtins, one)], name)

    def test_imports_are_of_the_package_and_from_where_a_name_is_defined(self):
        by_module = {f"planesheard.{name[:-3]}": tree for name, tree in trees()}
        for name, node in nodes(ast.Import, ast.ImportFrom):
            self.assertIsInstance(node, ast.ImportFrom, name)
            self.assertEqual(node.level, 0)
            defined = [one.name if hasattr(one, "name") else one.targets[0].id for one in by_module[node.module].body
                       if isinstance(one, (ast.FunctionDef, ast.ClassDef, ast.Assign))]
            for alias in node.names:
                self.assertIn(alias.name, defined)

    def test_no_two_files_draw_from_one_another(self):
        drawn = {name[:-3]: {node.module.split(".")[-1] for node in tree.body if isinstance(node, ast.ImportFrom)}
                 for name, tree in trees()}
        while drawn:
            free = [name for name, others in drawn.items() if not others & set(drawn)]
            self.assertTrue(free, drawn)
            drawn = {name: others for name, others in drawn.items() if name not in free}


class Code(unittest.TestCase):
    def test_only_these_forms(self):
        for name, tree in trees():
            for node in ast.walk(tree):
                self.assertIn(type(node).__name__, NODES, (name, getattr(node, "lineno", 0)))

    def test_values(self):
        for name, node in nodes(ast.Constant):
            self.assertIn(type(node.value), (int, str, bool, type(None)), (name, node.lineno))
            self.assertNotIn("%", str(node.value), (name, node.lineno))
        for name, node in nodes(ast.BinOp):
            self.assertNotIsInstance(node.op, ast.Pow, (name, node.lineno))

    def test_assignments_have_one_plain_target(self):
        for name, node in nodes(ast.Assign):
            self.assertEqual(len(node.targets), 1, (name, node.lineno))
            self.assertNotIsInstance(node.targets[0], (ast.Tuple, ast.List), (name, node.lineno))

    def test_functions_are_plain(self):
        for name, node in nodes(ast.FunctionDef, ast.ClassDef):
            self.assertEqual(node.decorator_list, [])
            if isinstance(node, ast.FunctionDef):
                self.assertFalse(node.args.vararg or node.args.kwarg or node.args.kwonlyargs or node.args.posonlyargs)
                self.assertFalse(node.returns or [arg for arg in node.args.args if arg.annotation])

    def test_names(self):
        for name, tree in trees():
            classes_and_imports = [node.name for node in tree.body if isinstance(node, ast.ClassDef)]
            for node in tree.body:
                if isinstance(node, ast.ImportFrom):
                    classes_and_imports.extend(alias.name for alias in node.names)
            for node in ast.walk(tree):
                if isinstance(node, ast.Name) or isinstance(node, ast.arg):
                    word = node.id if isinstance(node, ast.Name) else node.arg
                    self.assertRegex(word, r"^[A-Za-z][A-Za-z0-9_]*$", name)
                    self.assertNotIn(word, UNUSED, name)
                    if isinstance(node, ast.arg) or isinstance(node.ctx, ast.Store):
                        self.assertFalse(hasattr(builtins, word), (name, word))
                        self.assertNotIn(word, classes_and_imports, (name, word))
                    elif hasattr(builtins, word):
                        self.assertIn(word, OWN_NAMES, (name, word))

    def test_methods_and_values(self):
        methods = {node.name for tree in trees() for kind in tree[1].body if isinstance(kind, ast.ClassDef)
                   for node in kind.body if isinstance(node, ast.FunctionDef)}
        values = {node.attr for name, node in nodes(ast.Attribute) if isinstance(node.ctx, ast.Store)}
        self.assertEqual(methods & values, set())
        self.assertEqual((methods | values) & TAKEN - {"__init__"}, set())
        for name, node in nodes(ast.Attribute):
            self.assertIn(node.attr, methods | values | set(METHODS), (name, node.lineno))
            self.assertNotIn(node.attr, UNUSED, (name, node.lineno))

    def test_is_stands_beside_none_alone(self):
        for name, node in nodes(ast.Compare):
            if isinstance(node.ops[0], (ast.Is, ast.IsNot)):
                self.assertIsInstance(node.comparators[0], ast.Constant, (name, node.lineno))
                self.assertIn(node.comparators[0].value, (None, True, False))

    def test_each_class_is_documented_and_has_no_values(self):
        for name, node in nodes(ast.ClassDef):
            self.assertTrue(ast.get_docstring(node), (name, node.name))
            for one in node.body[1:]:
                self.assertIsInstance(one, ast.FunctionDef, (name, node.name))


if __name__ == "__main__":
    unittest.main()
