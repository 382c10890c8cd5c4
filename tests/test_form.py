"""The package keeps to its part of Python: what of those rules can be seen rule by rule."""

import ast
import builtins
import pathlib
import re
import unittest

PACKAGE = pathlib.Path(__file__).resolve().parent.parent / "shearedsquares"

NODES = (
    "Module Expr Assign AugAssign FunctionDef ClassDef arguments arg Return If While For Break Continue Pass Raise "
    "Try ExceptHandler ImportFrom alias Constant Name Load Store Attribute Subscript Slice Call keyword List Tuple "
    "Dict ListComp comprehension Lambda IfExp BoolOp And Or UnaryOp Not USub BinOp Add Sub Mult FloorDiv Mod Pow "
    "BitAnd BitOr BitXor LShift RShift Invert Compare Eq NotEq Lt LtE Gt GtE Is IsNot In NotIn JoinedStr "
    "FormattedValue"
).split()

BUILTINS = (
    "len range enumerate zip min max sum abs sorted reversed int str bool list tuple dict isinstance ord repr any "
    "all divmod Exception ValueError TypeError KeyError IndexError LookupError ZeroDivisionError ArithmeticError "
    "OverflowError RuntimeError NotImplementedError AttributeError StopIteration"
).split()

METHODS = (
    "append clear copy count endswith extend find get index insert isalnum isalpha isdigit islower isspace isupper "
    "items join keys ljust lower lstrip partition pop remove replace reverse rfind rjust rpartition rsplit rstrip "
    "setdefault split splitlines startswith strip update upper values zfill bit_length"
).split()

WORDS = (
    "type typing typing_extensions enum Enum IntEnum StrEnum Flag IntFlag Generic Protocol ABC ABCMeta namedtuple "
    "NamedTuple TypedDict TYPE_CHECKING abstractmethod"
).split()

FILES = sorted(path for path in PACKAGE.rglob("*") if "__pycache__" not in path.parts)
TEXTS = {path.name: path.read_text(encoding="utf-8") for path in FILES}
TREES = {name: ast.parse(text) for name, text in TEXTS.items()}


def nodes(*kinds):
    """Each such node with where it stands."""
    found = []
    for name, tree in TREES.items():
        for node in ast.walk(tree):
            if not kinds or isinstance(node, kinds):
                found.append((node, f"{name}:{getattr(node, 'lineno', 0)}"))
    return found


def top_names(tree):
    """The names that a file's top binds itself."""
    found = [node.name for node in tree.body if isinstance(node, (ast.FunctionDef, ast.ClassDef))]
    return found + [node.targets[0].id for node in tree.body if isinstance(node, ast.Assign)]


class Form(unittest.TestCase):
    def test_files(self):
        self.assertIn("__init__.py", TEXTS)
        self.assertIn("squares.py", TEXTS)
        for name, text in TEXTS.items():
            self.assertRegex(name, r"\A[a-z0-9_]+\.py\Z")
            self.assertRegex(text, r"\A[ -~\n]*\Z", name)
            self.assertLessEqual(len(text.splitlines()), 400, name)
            self.assertLessEqual(max(len(line) for line in text.splitlines()), 120, name)

    def test_words(self):
        for name, text in TEXTS.items():
            self.assertEqual(set(re.findall(r"\w+", text)) & set(WORDS), set(), name)
            self.assertNotRegex(text, "dataclass|overload|contextmanager", name)

    def test_nodes(self):
        for node, where in nodes():
            self.assertIn(type(node).__name__, NODES, where)

    def test_imports_are_the_package_s_own(self):
        for node, where in nodes(ast.ImportFrom):
            self.assertEqual(node.level, 0, where)
            self.assertTrue(node.module.startswith("shearedsquares."), where)

    def test_each_name_is_drawn_from_the_file_that_defines_it(self):
        for node, where in nodes(ast.ImportFrom):
            tree = TREES[node.module.split(".")[1] + ".py"]
            for drawn in node.names:
                self.assertIsNone(drawn.asname, where)
                self.assertIn(drawn.name, top_names(tree), where)

    def test_no_two_files_draw_from_one_another(self):
        drawn = {name: {node.module.split(".")[1] + ".py" for node in ast.walk(tree) if isinstance(node, ast.ImportFrom)}
                 for name, tree in TREES.items()}
        for turn in TREES:
            drawn = {name: found.union(*[drawn[other] for other in found]) for name, found in drawn.items()}
        for name, found in drawn.items():
            self.assertNotIn(name, found)

    def test_each_name_once_and_none_hidden(self):
        for name, tree in TREES.items():
            top = top_names(tree)
            self.assertEqual(len(top), len(set(top)), name)
            taken = [alias.name for node in ast.walk(tree) if isinstance(node, ast.ImportFrom) for alias in node.names]
            self.assertEqual(len(taken + top), len(set(taken + top)), name)
            taken += [node.name for node in tree.body if isinstance(node, ast.ClassDef)]
            for node in ast.walk(tree):
                if isinstance(node, ast.arg):
                    self.assertNotIn(node.arg, taken, f"{name}:{node.lineno}")
                elif isinstance(node, ast.Name) and isinstance(node.ctx, ast.Store):
                    self.assertNotIn(node.id, taken, f"{name}:{node.lineno}")

    def test_no_method_is_called_like_a_value(self):
        methods = {item.name for node, where in nodes(ast.ClassDef) for item in node.body
                   if isinstance(item, ast.FunctionDef)}
        for node, where in nodes(ast.Attribute):
            if isinstance(node.ctx, ast.Store):
                self.assertNotIn(node.attr, methods, where)
                self.assertNotIn(node.attr, METHODS, where)

    def test_functions(self):
        for node, where in nodes(ast.FunctionDef):
            self.assertLessEqual(node.end_lineno - node.lineno + 1, 40, where)
            self.assertEqual(node.decorator_list, [], where)
            self.assertFalse(node.args.vararg or node.args.kwarg or node.args.kwonlyargs, where)

    def test_names(self):
        for node, where in nodes(ast.Name):
            self.assertFalse(node.id.startswith("_"), where)
            if isinstance(node.ctx, ast.Store):
                self.assertFalse(hasattr(builtins, node.id), where)
            elif hasattr(builtins, node.id):
                self.assertIn(node.id, BUILTINS, where)
        for node, where in nodes(ast.arg):
            self.assertFalse(hasattr(builtins, node.arg) or node.arg.startswith("_"), where)

    def test_methods(self):
        own = [node.name for node, where in nodes(ast.FunctionDef)]
        for node, where in nodes(ast.Call):
            if isinstance(node.func, ast.Attribute):
                self.assertIn(node.func.attr, METHODS + own, where)

    def test_statements(self):
        for node, where in nodes(ast.Assign):
            self.assertEqual(len(node.targets), 1, where)
        for node, where in nodes(ast.For, ast.While):
            self.assertEqual(node.orelse, [], where)
        for node, where in nodes(ast.ListComp):
            self.assertEqual(len(node.generators), 1, where)
            self.assertLessEqual(len(node.generators[0].ifs), 1, where)
        for node, where in nodes(ast.Constant):
            self.assertIn(type(node.value).__name__, ("int", "str", "bool", "NoneType"), where)


if __name__ == "__main__":
    unittest.main()
