"""What of the language's rules L1 to L28 a walk over the package's files can see."""

import ast
import builtins
import pathlib
import re
import unittest

PACKAGE = pathlib.Path(__file__).resolve().parent.parent / "respelling"

STATEMENTS = (
    ast.Assign, ast.AugAssign, ast.If, ast.While, ast.For, ast.Return, ast.Break, ast.Continue, ast.Pass, ast.Raise,
    ast.Try, ast.Expr, ast.FunctionDef, ast.ClassDef, ast.ImportFrom)
EXPRESSIONS = (
    ast.Constant, ast.List, ast.Tuple, ast.Dict, ast.Set, ast.BinOp, ast.UnaryOp, ast.BoolOp, ast.Compare, ast.IfExp,
    ast.Call, ast.Attribute, ast.Subscript, ast.Slice, ast.ListComp, ast.JoinedStr, ast.FormattedValue, ast.Name,
    ast.Lambda)
OWN_NAMES = frozenset("""
    len range enumerate zip min max sum abs sorted reversed int str bool list tuple dict set frozenset isinstance ord
    repr any all divmod Exception ValueError TypeError KeyError IndexError LookupError ZeroDivisionError
    ArithmeticError OverflowError RuntimeError NotImplementedError AttributeError StopIteration""".split())
METHODS = frozenset("""
    append clear copy count endswith extend find get index insert isalnum isalpha isdigit islower isspace isupper
    items join keys ljust lower lstrip partition pop remove replace reverse rfind rjust rpartition rsplit rstrip
    setdefault split splitlines startswith strip update upper values zfill bit_length""".split())
NOT_NAMES = frozenset("""
    register mro elements open input version_info with_traceback add_note attrgetter breakpoint builtins compile
    copyright credits delattr dir eval exec exit gc getattr globals hasattr help id importlib license locals
    methodcaller os quit setattr super type vars sys format format_map""".split())
NOT_WORDS = re.compile(
    r"\b(type|typing|typing_extensions|enum|Enum|IntEnum|StrEnum|Flag|IntFlag|Generic|Protocol|ABC|ABCMeta"
    r"|namedtuple|NamedTuple|TypedDict|TYPE_CHECKING|abstractmethod)\b|dataclass|overload|contextmanager")
NOT_VALUES = frozenset("""
    items keys values pop update append clear extend insert remove reverse setdefault sort args encode
    format""".split())
PYTHON_KINDS = (str, int, list, dict, set, frozenset, tuple, bytes)
TWO_UNDERSCORES = ("__init__", "__eq__", "__repr__", "__str__", "__len__")


def walk_files():
    for path in sorted(PACKAGE.rglob("*.py")):
        text = path.read_text(encoding="utf-8")
        yield path, text, ast.parse(text)


def nodes(*kinds):
    for path, text, tree in walk_files():
        for node in ast.walk(tree):
            if isinstance(node, kinds):
                yield f"{path.name}:{getattr(node, 'lineno', 0)}", node


def bound_names(node):
    if isinstance(node, ast.arg):
        return [node.arg]
    if isinstance(node, (ast.FunctionDef, ast.ClassDef)):
        return [node.name]
    if isinstance(node, ast.Name) and isinstance(node.ctx, ast.Store):
        return [node.id]
    return []


def is_docstring(node):
    return isinstance(node, ast.Expr) and isinstance(node.value, ast.Constant) and isinstance(node.value.value, str)


class Files(unittest.TestCase):
    def test_only_plain_files(self):
        for path in PACKAGE.rglob("*"):
            if "__pycache__" not in path.parts:
                self.assertTrue(path.is_dir() or re.fullmatch(r"[a-z0-9_]+\.py", path.name), path)
                self.assertFalse(path.stem in dir(builtins), path)
        self.assertTrue((PACKAGE / "__init__.py").is_file())

    def test_sizes_and_signs(self):
        for path, text, tree in walk_files():
            self.assertIsNone(re.search(r"[^ -~\n]", text), path)
            self.assertLessEqual(len(text.splitlines()), 400, path)
            self.assertLessEqual(max(len(line) for line in text.splitlines()), 120, path)
            self.assertIsNone(NOT_WORDS.search(text), path)

    def test_functions_are_short(self):
        for place, node in nodes(ast.FunctionDef):
            self.assertLessEqual(node.end_lineno - node.lineno + 1, 40, place)

    def test_top_of_each_file(self):
        for path, text, tree in walk_files():
            for node in tree.body:
                allowed = (ast.ImportFrom, ast.FunctionDef, ast.ClassDef, ast.Assign)
                self.assertTrue(isinstance(node, allowed) or is_docstring(node), f"{path.name}:{node.lineno}")

    def test_names_are_bound_once_at_the_top(self):
        for path, text, tree in walk_files():
            names = [name for node in tree.body if isinstance(node, ast.Assign) for name in bound_names(node.targets[0])]
            names += [name for node in tree.body for name in bound_names(node)]
            names += [alias.name for node in tree.body if isinstance(node, ast.ImportFrom) for alias in node.names]
            self.assertEqual(len(names), len(set(names)), path)

    def test_imports(self):
        drawn = {}
        for path, text, tree in walk_files():
            drawn[path.stem] = [node.module for node in ast.walk(tree) if isinstance(node, ast.ImportFrom)]
            for module in drawn[path.stem]:
                self.assertRegex(module, r"^respelling\.[a-z]+$", path)
        self.assertEqual(drawn["__init__"], [])
        while drawn:
            free = [stem for stem in drawn if all(module.split(".")[1] not in drawn for module in drawn[stem])]
            self.assertTrue(free, f"files that draw from one another: {sorted(drawn)}")
            drawn = {stem: drawn[stem] for stem in drawn if stem not in free}


class Forms(unittest.TestCase):
    def test_statements_and_expressions(self):
        for place, node in nodes(ast.stmt):
            self.assertIsInstance(node, STATEMENTS, place)
        for place, node in nodes(ast.expr):
            self.assertIsInstance(node, EXPRESSIONS, place)

    def test_statements_by_themselves_are_calls(self):
        for path, text, tree in walk_files():
            for node in ast.walk(tree):
                if isinstance(node, ast.Expr) and node is not tree.body[0]:
                    self.assertIsInstance(node.value, ast.Call, f"{path.name}:{node.lineno}")

    def test_statements_have_no_more_than_told(self):
        for place, node in nodes(ast.Assign):
            self.assertEqual(len(node.targets), 1, place)
        for place, node in nodes(ast.For, ast.While):
            self.assertEqual(node.orelse, [], place)
        for place, node in nodes(ast.Try):
            self.assertEqual(node.finalbody, [], place)
        for place, node in nodes(ast.ListComp):
            self.assertEqual(len(node.generators), 1, place)
            self.assertLessEqual(len(node.generators[0].ifs), 1, place)

    def test_plain_parameters(self):
        for place, node in nodes(ast.arguments):
            self.assertEqual((node.vararg, node.kwarg, node.kwonlyargs, node.posonlyargs), (None, None, [], []), place)
        for place, node in nodes(ast.FunctionDef, ast.ClassDef):
            self.assertEqual(node.decorator_list, [], place)

    def test_operators_and_constants(self):
        self.assertEqual([place for place, node in nodes(ast.Div, ast.MatMult, ast.Pow)], [])
        for place, node in nodes(ast.Constant):
            self.assertIsInstance(node.value, (int, str, bool, type(None)), place)
        for place, node in nodes(ast.Compare):
            for operator, right in zip(node.ops, node.comparators):
                if isinstance(operator, (ast.Is, ast.IsNot)):
                    self.assertTrue(isinstance(right, ast.Constant) and right.value in (None, True, False), place)

    def test_classes_stand_at_the_top(self):
        for path, text, tree in walk_files():
            inner = [node for node in ast.walk(tree) if isinstance(node, ast.ClassDef) and node not in tree.body]
            self.assertEqual(inner, [], path)
        for place, node in nodes(ast.ClassDef):
            self.assertLessEqual(len(node.bases), 1, place)
            for part in node.body:
                self.assertIsInstance(part, (ast.FunctionDef, ast.Pass), place)


class Names(unittest.TestCase):
    def test_plain_words(self):
        for place, node in nodes(ast.arg, ast.FunctionDef, ast.ClassDef, ast.Name):
            for name in bound_names(node):
                self.assertTrue(re.fullmatch(r"[A-Za-z][A-Za-z0-9_]*", name) or name in TWO_UNDERSCORES, place)
                self.assertFalse(name in dir(builtins), f"{place} {name}")

    def test_names_that_are_used(self):
        for place, node in nodes(ast.Name):
            self.assertNotIn(node.id, NOT_NAMES, place)
            if node.id in dir(builtins):
                self.assertIn(node.id, OWN_NAMES, place)
        for place, node in nodes(ast.Attribute):
            self.assertNotIn(node.attr, NOT_NAMES, place)

    def test_locals_are_not_called_like_classes_or_imports(self):
        for path, text, tree in walk_files():
            taken = [node.name for node in tree.body if isinstance(node, ast.ClassDef)]
            taken += [alias.name for node in tree.body if isinstance(node, ast.ImportFrom) for alias in node.names]
            for node in ast.walk(tree):
                if isinstance(node, (ast.arg, ast.Name)):
                    self.assertFalse(set(bound_names(node)) & set(taken), f"{path.name}:{node.lineno}")

    def test_methods_and_values(self):
        methods = {part.name for place, node in nodes(ast.ClassDef) for part in node.body
                   if isinstance(part, ast.FunctionDef)}
        values = {node.attr for place, node in nodes(ast.Attribute) if isinstance(node.ctx, ast.Store)}
        self.assertEqual(methods & values, set())
        self.assertEqual(values & NOT_VALUES, set())
        for name in (methods | values) - set(TWO_UNDERSCORES):
            self.assertFalse(any(hasattr(kind, name) for kind in PYTHON_KINDS), name)
        for place, node in nodes(ast.Attribute):
            self.assertIn(node.attr, methods | values | METHODS, place)

    def test_values_are_given_through_a_local_name(self):
        for place, node in nodes(ast.Attribute):
            if isinstance(node.ctx, ast.Store):
                self.assertIsInstance(node.value, ast.Name, place)
