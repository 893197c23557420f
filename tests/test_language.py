"""The part of Python that the package keeps to, as far as a walk over its files can see."""

import ast
import builtins
import os
import re
import unittest

import helper

PACKAGE = os.path.join(os.path.dirname(os.path.dirname(os.path.abspath(helper.__file__))), "framenode")
OWN_NAMES = set(
    "len range enumerate zip min max sum abs sorted reversed int str bool list tuple dict set frozenset isinstance ord "
    "repr any all divmod Exception ValueError TypeError KeyError IndexError LookupError ZeroDivisionError "
    "ArithmeticError OverflowError RuntimeError NotImplementedError AttributeError StopIteration".split()
)
OWN_METHODS = set(
    "append clear copy count endswith extend find get index insert isalnum isalpha isdigit islower isspace isupper "
    "items join keys ljust lower lstrip partition pop remove replace reverse rfind rjust rpartition rsplit rstrip "
    "setdefault split splitlines startswith strip update upper values zfill bit_length".split()
)
WORDS = (
    "type typing typing_extensions enum Enum IntEnum StrEnum Flag IntFlag Generic Protocol ABC ABCMeta namedtuple "
    "NamedTuple TypedDict TYPE_CHECKING abstractmethod"
).split()
UNUSED = set(
    "register mro elements open input version_info with_traceback add_note attrgetter breakpoint builtins compile "
    "copyright credits delattr dir eval exec exit gc getattr globals hasattr help id importlib license locals "
    "methodcaller os quit setattr super type vars sys".split()
)
NODES = (
    ast.Module, ast.FunctionDef, ast.ClassDef, ast.arguments, ast.arg, ast.ImportFrom, ast.alias, ast.Assign,
    ast.AugAssign, ast.If, ast.While, ast.For, ast.Return, ast.Break, ast.Continue, ast.Pass, ast.Raise, ast.Try,
    ast.ExceptHandler, ast.Expr, ast.Name, ast.Attribute, ast.Constant, ast.List, ast.Tuple, ast.Dict, ast.BinOp,
    ast.UnaryOp, ast.BoolOp, ast.Compare, ast.IfExp, ast.Call, ast.keyword, ast.Subscript, ast.Slice, ast.ListComp,
    ast.comprehension, ast.JoinedStr, ast.FormattedValue, ast.Lambda, ast.expr_context, ast.operator, ast.unaryop,
    ast.boolop, ast.cmpop,
)


def files():
    return sorted(name for name in os.listdir(PACKAGE) if name != "__pycache__")


def text_of(name):
    with open(os.path.join(PACKAGE, name), encoding="utf-8", newline="") as file:
        return file.read()


def trees():
    return [(name, ast.parse(text_of(name))) for name in files()]


def defs_of(tree):
    return [node for node in ast.walk(tree) if isinstance(node, ast.FunctionDef)]


def imports_of(tree):
    return [(node.module, alias.name) for node in tree.body if isinstance(node, ast.ImportFrom) for alias in node.names]


def stored(tree):
    return [node for node in ast.walk(tree) if isinstance(getattr(node, "ctx", None), ast.Store)]


def top_names(tree):
    names = []
    for node in tree.body:
        if isinstance(node, (ast.FunctionDef, ast.ClassDef)):
            names.append(node.name)
        elif isinstance(node, ast.Assign):
            names += [target.id for target in node.targets]
    return names


class Files(unittest.TestCase):
    def test_names(self):
        self.assertIn("__init__.py", files())
        self.assertIn("bus.py", files())
        for name in files():
            self.assertRegex(name, r"^([a-z][a-z0-9_]*|__init__)\.py$")
            self.assertNotIn(name[:-3], dir(builtins))

    def test_signs_and_sizes(self):
        for name in files():
            text = text_of(name)
            self.assertRegex(text, r"\A[ -~\n]*\Z", name)
            lines = text.split("\n")
            self.assertLessEqual(len(lines), 400, name)
            self.assertLessEqual(max(len(line) for line in lines), 120, name)

    def test_words(self):
        for name in files():
            for word in WORDS:
                self.assertIsNone(re.search(r"\b" + word + r"\b", text_of(name)), (name, word))
            for part in ("dataclass", "overload", "contextmanager"):
                self.assertNotIn(part, text_of(name))


class Forms(unittest.TestCase):
    def test_statements_and_expressions(self):
        for name, tree in trees():
            for node in ast.walk(tree):
                self.assertIsInstance(node, NODES, (name, getattr(node, "lineno", 0)))
                self.assertNotIsInstance(node, (ast.Div, ast.MatMult, ast.Starred))
                if isinstance(node, ast.Constant):
                    self.assertIn(type(node.value), (int, str, bool, type(None)), name)
                if isinstance(node, ast.Assign):
                    self.assertEqual(len(node.targets), 1, name)
                    self.assertNotIsInstance(node.targets[0], (ast.Tuple, ast.List), name)
                if isinstance(node, (ast.For, ast.While)):
                    self.assertEqual(node.orelse, [], name)
                if isinstance(node, ast.ListComp):
                    self.assertEqual(len(node.generators), 1, name)
                if isinstance(node, (ast.FunctionDef, ast.ClassDef)):
                    self.assertEqual(node.decorator_list, [], name)

    def test_a_text_by_itself_is_the_file_s_first_alone(self):
        for name, tree in trees():
            self.assertIsNotNone(ast.get_docstring(tree), name)
            for node in ast.walk(tree):
                if isinstance(node, ast.Expr) and node is not tree.body[0]:
                    self.assertIsInstance(node.value, ast.Call, (name, node.lineno))

    def test_is_stands_beside_none_alone(self):
        for name, tree in trees():
            for node in ast.walk(tree):
                if isinstance(node, ast.Compare) and isinstance(node.ops[0], (ast.Is, ast.IsNot)):
                    self.assertIsInstance(node.comparators[0], ast.Constant, (name, node.lineno))

    def test_defs(self):
        for name, tree in trees():
            for node in defs_of(tree):
                self.assertLessEqual(node.end_lineno - node.lineno + 1, 40, (name, node.name))
                held = node.args
                self.assertEqual((held.vararg, held.kwarg, held.kwonlyargs, held.posonlyargs), (None, None, [], []))
                self.assertIsNone(node.returns)

    def test_nothing_unused(self):
        for name, tree in trees():
            used = {node.id for node in ast.walk(tree) if isinstance(node, ast.Name)}
            for module, taken in imports_of(tree):
                self.assertIn(taken, used, name)


class Names(unittest.TestCase):
    def test_names_that_are_bound(self):
        for name, tree in trees():
            imported = [taken for module, taken in imports_of(tree)]
            classes = [node.name for node in tree.body if isinstance(node, ast.ClassDef)]
            bound = [node.arg for node in ast.walk(tree) if isinstance(node, ast.arg)]
            bound += [node.id for node in stored(tree) if isinstance(node, ast.Name)]
            for one in bound:
                self.assertFalse(one.startswith("_"), (name, one))
                self.assertNotIn(one, imported + classes, name)
                self.assertNotIn(one, dir(builtins), name)
                self.assertNotIn(one, UNUSED, name)

    def test_each_top_name_once(self):
        for name, tree in trees():
            names = top_names(tree) + [taken for module, taken in imports_of(tree)]
            self.assertEqual(len(names), len(set(names)), name)
            for one in names:
                self.assertFalse(one.startswith("_"), (name, one))
                self.assertNotIn(one, dir(builtins), name)

    def test_python_s_own_names(self):
        for name, tree in trees():
            for node in ast.walk(tree):
                if isinstance(node, ast.Name) and node.id in dir(builtins):
                    self.assertIn(node.id, OWN_NAMES, (name, node.lineno))

    def test_methods_and_values(self):
        methods = set()
        values = set()
        for name, tree in trees():
            for node in tree.body:
                if isinstance(node, ast.ClassDef):
                    methods |= {held.name for held in node.body if isinstance(held, ast.FunctionDef)}
            values |= {node.attr for node in stored(tree) if isinstance(node, ast.Attribute)}
        self.assertEqual(methods & values, set())
        python_s = set(dir(str)) | set(dir(int)) | set(dir(list)) | set(dir(dict)) | set(dir(set)) | set(dir(bytes))
        self.assertEqual((methods - {"__init__"}) & python_s, set())
        self.assertEqual(values & python_s, set())
        for name, tree in trees():
            for node in ast.walk(tree):
                if isinstance(node, ast.Attribute):
                    self.assertIn(node.attr, methods | values | OWN_METHODS, (name, node.lineno))


class Imports(unittest.TestCase):
    def test_from_the_file_that_defines_it(self):
        defined = {"framenode." + name[:-3]: top_names(tree) for name, tree in trees()}
        for name, tree in trees():
            for module, taken in imports_of(tree):
                self.assertIn(taken, defined[module], name)

    def test_init_draws_from_nothing(self):
        self.assertEqual(imports_of(dict(trees())["__init__.py"]), [])

    def test_no_two_draw_from_one_another(self):
        draws = {"framenode." + name[:-3]: {module for module, taken in imports_of(tree)} for name, tree in trees()}
        while draws:
            free = [module for module in draws if not draws[module] & set(draws)]
            self.assertNotEqual(free, [], draws)
            for module in free:
                draws.pop(module)


if __name__ == "__main__":
    unittest.main()
