"""The package keeps to its part of the language, as far as a walk through its syntax can see."""

import ast
import builtins
import re
import unittest
from pathlib import Path

PACKAGE = Path(__file__).resolve().parent.parent / "valleyposts"

NODES = set("""
    Module FunctionDef ClassDef Return Assign AugAssign For While If Raise Try ExceptHandler ImportFrom alias Expr
    Pass Break Continue BoolOp And Or BinOp Add Sub Mult FloorDiv Mod Pow LShift RShift BitOr BitXor BitAnd UnaryOp
    Not USub Invert Lambda IfExp Dict Set ListComp comprehension Compare Eq NotEq Lt LtE Gt GtE Is IsNot In NotIn
    Call keyword FormattedValue JoinedStr Constant Attribute Subscript Name List Tuple Slice Load Store arguments arg
    """.split())
OWN_NAMES = set("""
    len range enumerate zip min max sum abs sorted reversed int str bool list tuple dict set frozenset isinstance ord
    repr any all divmod Exception ValueError TypeError KeyError IndexError LookupError ZeroDivisionError
    ArithmeticError OverflowError RuntimeError NotImplementedError AttributeError StopIteration
    """.split())
METHODS = set("""
    append clear copy count endswith extend find get index insert isalnum isalpha isdigit islower isspace isupper
    items join keys ljust lower lstrip partition pop remove replace reverse rfind rjust rpartition rsplit rstrip
    setdefault split splitlines startswith strip update upper values zfill bit_length
    """.split())
SPECIAL = {"__init__", "__eq__", "__repr__", "__str__", "__len__"}
WALKED = {"zip", "enumerate", "reversed", "range"}
WALKERS = {"list", "tuple", "dict", "sorted", "sum", "any", "all", "enumerate", "zip", "min", "max"}
PLAIN = (ast.Constant, ast.UnaryOp, ast.USub, ast.Tuple, ast.Name, ast.Load)
WORDS = re.compile(r"\b(type|typing|typing_extensions|enum|Enum|IntEnum|StrEnum|Flag|IntFlag|Generic|Protocol|ABC"
                   r"|ABCMeta|namedtuple|NamedTuple|TypedDict|TYPE_CHECKING|abstractmethod)\b"
                   r"|dataclass|overload|contextmanager")


class Language(unittest.TestCase):
    def setUp(self):
        self.texts = {path: path.read_text(encoding="utf-8") for path in sorted(PACKAGE.glob("*.py"))}
        self.trees = {path: ast.parse(text) for path, text in self.texts.items()}

    def nodes(self, *kinds):
        for path, tree in self.trees.items():
            for node in ast.walk(tree):
                if isinstance(node, kinds):
                    yield f"{path.name}:{getattr(node, 'lineno', 0)}", node

    def test_files(self):
        names = [path.name for path in PACKAGE.iterdir() if path.name != "__pycache__"]
        self.assertEqual(sorted(names), [path.name for path in self.texts])
        for name in names:
            self.assertRegex(name, r"^([a-z][a-z0-9_]*|__init__)\.py$")

    def test_signs_words_and_sizes(self):
        for path, text in self.texts.items():
            self.assertRegex(text, r"\A[ -~\n]*\Z", path.name)
            self.assertIsNone(WORDS.search(text), path.name)
            self.assertLessEqual(len(text.splitlines()), 400)
            self.assertLessEqual(max(map(len, text.splitlines())), 120)
        for place, node in self.nodes(ast.FunctionDef):
            self.assertLessEqual(node.end_lineno - node.lineno + 1, 40, place)

    def test_kinds_of_syntax(self):
        for place, node in self.nodes(ast.AST):
            self.assertIn(node.__class__.__name__, NODES, place)
        for place, node in self.nodes(ast.Constant):
            self.assertIsInstance(node.value, (int, str, bool, type(None)), place)
        for place, node in self.nodes(ast.Assign):
            self.assertEqual(len(node.targets), 1, place)
            self.assertNotIsInstance(node.targets[0], (ast.Tuple, ast.List), place)
        for place, node in self.nodes(ast.ListComp):
            self.assertEqual(len(node.generators), 1, place)
            self.assertLessEqual(len(node.generators[0].ifs), 1, place)
        for place, node in self.nodes(ast.For, ast.While):
            self.assertEqual(node.orelse, [], place)
        for place, node in self.nodes(ast.FunctionDef):
            given = node.args
            self.assertEqual((node.decorator_list, given.vararg, given.kwarg, given.kwonlyargs, given.posonlyargs),
                             ([], None, None, [], []), place)

    def test_imports_are_the_packages_own(self):
        for place, node in self.nodes(ast.ImportFrom):
            self.assertEqual(node.level, 0, place)
            package, name = node.module.split(".")
            self.assertEqual(package, "valleyposts", place)
            defined = defined_names(self.trees[PACKAGE / f"{name}.py"])
            for imported in node.names:
                self.assertIn(imported.name, defined, place)
                self.assertIsNone(imported.asname, place)

    def test_no_two_files_draw_from_one_another(self):
        drawn = {path.stem: {node.module.split(".")[1] for node in tree.body if isinstance(node, ast.ImportFrom)}
                 for path, tree in self.trees.items()}
        # Files that draw from nothing that is left are taken away, till none is left.
        while drawn:
            free = [name for name, others in drawn.items() if not others & set(drawn)]
            self.assertNotEqual(free, [], drawn)
            drawn = {name: others for name, others in drawn.items() if name not in free}

    def test_names(self):
        for place, node in self.nodes(ast.Name):
            if hasattr(builtins, node.id):
                self.assertIn(node.id, OWN_NAMES, place)
                self.assertIsInstance(node.ctx, ast.Load, place)
            self.assertRegex(node.id, r"^[A-Za-z][A-Za-z0-9_]*$", place)
        for place, node in self.nodes(ast.arg):
            self.assertFalse(hasattr(builtins, node.arg), place)
        for place, node in self.nodes(ast.FunctionDef, ast.ClassDef):
            if node.name not in SPECIAL:
                self.assertFalse(hasattr(builtins, node.name), place)
                self.assertFalse(node.name.startswith("_"), place)

    def test_methods(self):
        own = {node.name for place, node in self.nodes(ast.FunctionDef)}
        for place, node in self.nodes(ast.Call):
            if isinstance(node.func, ast.Attribute):
                self.assertIn(node.func.attr, METHODS | own, place)

    def test_top_of_a_file_binds_each_name_once(self):
        for path, tree in self.trees.items():
            bound = []
            for node in tree.body:
                self.assertIsInstance(node, (ast.Expr, ast.ImportFrom, ast.Assign, ast.FunctionDef, ast.ClassDef))
                if isinstance(node, ast.Assign):
                    bound.append(node.targets[0].id)
                elif isinstance(node, ast.ImportFrom):
                    bound.extend(one.name for one in node.names)
                elif not isinstance(node, ast.Expr):
                    bound.append(node.name)
            self.assertEqual(len(bound), len(set(bound)), path.name)

    def test_values_at_the_top_are_plain(self):
        for path, tree in self.trees.items():
            functions = [node.name for node in tree.body if isinstance(node, ast.FunctionDef)]
            for node in tree.body:
                if isinstance(node, ast.Assign):
                    for part in ast.walk(node.value):
                        self.assertIsInstance(part, PLAIN, path.name)
                        if isinstance(part, ast.Name):
                            self.assertIn(part.id, functions, path.name)

    def test_no_local_is_called_like_an_import_or_a_class(self):
        for path, tree in self.trees.items():
            taken = imported_names(tree) | {node.name for node in tree.body if isinstance(node, ast.ClassDef)}
            for function in ast.walk(tree):
                if isinstance(function, (ast.FunctionDef, ast.Lambda)):
                    locals_of = [node.id for node in ast.walk(function)
                                 if isinstance(node, ast.Name) and isinstance(node.ctx, ast.Store)]
                    locals_of += [node.arg for node in ast.walk(function) if isinstance(node, ast.arg)]
                    self.assertFalse(set(locals_of) & taken, f"{path.name}:{function.lineno}")

    def test_walked_on_the_spot(self):
        walked = set()
        for place, node in self.nodes(ast.For, ast.comprehension):
            walked.add(node.iter)
        for place, node in self.nodes(ast.Call):
            if isinstance(node.func, ast.Name) and node.func.id in WALKERS:
                walked.update(node.args)
        for place, node in self.nodes(ast.Call):
            if isinstance(node.func, ast.Name) and node.func.id in WALKED:
                self.assertIn(node, walked, place)

    def test_is_beside_none_true_and_false_alone(self):
        for place, node in self.nodes(ast.Compare):
            if isinstance(node.ops[0], (ast.Is, ast.IsNot)):
                self.assertIn(ast.unparse(node.comparators[0]), ("None", "True", "False"), place)


def imported_names(tree):
    return {one.name for node in tree.body if isinstance(node, ast.ImportFrom) for one in node.names}


def defined_names(tree):
    values = [node.targets[0].id for node in tree.body if isinstance(node, ast.Assign)]
    return values + [node.name for node in tree.body if isinstance(node, (ast.FunctionDef, ast.ClassDef))]
