"""The rules of the language that can be seen from the files of the package alone."""

import ast
import builtins
import os
import unittest

HERE = os.path.dirname(os.path.dirname(os.path.abspath(__file__)))
PACKAGE = os.path.join(HERE, "netnames")

STATEMENTS = (ast.Module, ast.FunctionDef, ast.ClassDef, ast.Assign, ast.AugAssign, ast.If,
              ast.While, ast.For, ast.Return, ast.Break, ast.Continue, ast.Pass, ast.Raise,
              ast.Expr, ast.ImportFrom)
EXPRESSIONS = (ast.BinOp, ast.UnaryOp, ast.BoolOp, ast.Compare, ast.IfExp, ast.Call,
               ast.Attribute, ast.Subscript, ast.Slice, ast.Name, ast.Constant, ast.List,
               ast.Tuple, ast.Dict, ast.ListComp, ast.Lambda, ast.JoinedStr, ast.FormattedValue)
BUILT_IN = """len range enumerate zip min max sum abs sorted reversed int str bool list tuple dict
set frozenset isinstance ord repr any all divmod Exception ValueError TypeError KeyError
IndexError LookupError ZeroDivisionError ArithmeticError OverflowError RuntimeError
NotImplementedError AttributeError StopIteration""".split()
METHODS = """append clear copy count endswith extend find get index insert isalnum isalpha isdigit
islower isspace isupper items join keys ljust lower lstrip partition pop remove replace reverse
rfind rjust rpartition rsplit rstrip setdefault split splitlines startswith strip update upper
values zfill bit_length""".split()
NOT_VALUES = """items keys values pop update append clear extend insert remove reverse setdefault
sort args encode format""".split()
NOT_USED = """register mro elements open input version_info with_traceback add_note attrgetter
breakpoint builtins compile copyright credits delattr dir eval exec exit gc getattr globals
hasattr help id importlib license locals methodcaller os quit setattr super type vars sys
typing typing_extensions enum Enum IntEnum StrEnum Flag IntFlag Generic Protocol ABC ABCMeta
namedtuple NamedTuple TypedDict TYPE_CHECKING abstractmethod dataclass overload
contextmanager""".split()
SPECIAL = ("__init__", "__eq__", "__repr__", "__str__", "__len__")


def names_of_files():
    return [name for name in sorted(os.listdir(PACKAGE)) if name != "__pycache__"]


def text_of(name):
    with open(os.path.join(PACKAGE, name), encoding="utf-8", newline="") as file:
        return file.read()


def nodes_of(name):
    return list(ast.walk(ast.parse(text_of(name))))


def own_methods():
    found = []
    for name in names_of_files():
        for node in nodes_of(name):
            if isinstance(node, ast.ClassDef):
                found += [one.name for one in node.body if isinstance(one, ast.FunctionDef)]
    return found


def own_values():
    found = []
    for name in names_of_files():
        for node in nodes_of(name):
            if isinstance(node, ast.Attribute) and isinstance(node.ctx, ast.Store):
                found.append(node.attr)
    return found


def bound_names(nodes):
    found = []
    for node in nodes:
        if isinstance(node, (ast.FunctionDef, ast.ClassDef)):
            found.append(node.name)
        elif isinstance(node, ast.arg):
            found.append(node.arg)
        elif isinstance(node, ast.Name) and isinstance(node.ctx, ast.Store):
            found.append(node.id)
    return found


class EachFile(unittest.TestCase):

    def test_files_are_python_with_plain_names(self):
        for name in names_of_files():
            self.assertRegex(name, r"\A[a-z0-9_]+\.py\Z")
            self.assertFalse(name.startswith("test") or name == "conftest.py")

    def test_signs_and_sizes(self):
        for name in names_of_files():
            text = text_of(name)
            self.assertTrue(all(sign == "\n" or " " <= sign <= "~" for sign in text))
            self.assertLessEqual(len(text.splitlines()), 399)
            self.assertLessEqual(max(len(line) for line in text.splitlines()), 120)
            for node in nodes_of(name):
                if isinstance(node, ast.FunctionDef):
                    self.assertLessEqual(node.end_lineno - node.lineno + 1, 40, node.name)

    def test_imports_are_the_packages_own(self):
        for name in names_of_files():
            for node in nodes_of(name):
                self.assertNotIsInstance(node, ast.Import)
                if isinstance(node, ast.ImportFrom):
                    self.assertEqual(node.level, 0)
                    self.assertRegex(node.module, r"\Anetnames\.")
                    defined = bound_names(nodes_of(node.module.split(".")[1] + ".py"))
                    for one in node.names:
                        self.assertIn(one.name, defined)
                        self.assertIsNone(one.asname)

    def test_statements_and_expressions(self):
        for name in names_of_files():
            for node in nodes_of(name):
                if isinstance(node, (ast.mod, ast.stmt)):
                    self.assertIsInstance(node, STATEMENTS)
                if isinstance(node, ast.expr):
                    self.assertIsInstance(node, EXPRESSIONS)
                if isinstance(node, ast.Assign):
                    self.assertEqual(len(node.targets), 1)
                if isinstance(node, (ast.While, ast.For)):
                    self.assertEqual(node.orelse, [])
                if isinstance(node, ast.BinOp):
                    self.assertNotIsInstance(node.op, (ast.Div, ast.MatMult, ast.Pow))
                if isinstance(node, ast.ListComp):
                    self.assertEqual(len(node.generators), 1)
                    self.assertLessEqual(len(node.generators[0].ifs), 1)
                if isinstance(node, ast.Constant):
                    self.assertIn(type(node.value), (int, str, bool, type(None)))

    def test_functions_have_plain_parameters(self):
        for name in names_of_files():
            for node in nodes_of(name):
                if isinstance(node, ast.FunctionDef):
                    given = node.args
                    self.assertEqual(node.decorator_list, [])
                    self.assertEqual((given.vararg, given.kwarg), (None, None))
                    self.assertEqual((given.kwonlyargs, given.posonlyargs), ([], []))
                    self.assertIsNone(node.returns)
                    self.assertTrue(all(one.annotation is None for one in given.args))

    def test_the_only_text_by_itself_is_the_one_at_the_top(self):
        for name in names_of_files():
            for node in nodes_of(name):
                if isinstance(node, ast.Expr) and not isinstance(node.value, ast.Call):
                    self.assertIsInstance(node.value.value, str)
                    self.assertEqual(node.lineno, 1)

    def test_is_stands_beside_none_true_and_false(self):
        for name in names_of_files():
            for node in nodes_of(name):
                if isinstance(node, ast.Compare):
                    for sign, right in zip(node.ops, node.comparators):
                        if isinstance(sign, (ast.Is, ast.IsNot)):
                            self.assertIn(ast.unparse(right), ("None", "True", "False"))


class Names(unittest.TestCase):

    def test_bound_names(self):
        for name in names_of_files():
            for one in bound_names(nodes_of(name)):
                if one not in SPECIAL:
                    self.assertFalse(one.startswith("_"), one)
                    self.assertNotIn(one, dir(builtins))
                    self.assertNotIn(one, NOT_USED)

    def test_used_names(self):
        for name in names_of_files():
            nodes = nodes_of(name)
            known = bound_names(nodes) + BUILT_IN
            for node in nodes:
                if isinstance(node, ast.ImportFrom):
                    known = known + [one.name for one in node.names]
            for node in nodes:
                if isinstance(node, ast.Name):
                    self.assertIn(node.id, known)

    def test_methods_and_values(self):
        for one in own_methods():
            self.assertNotIn(one, own_values())
            self.assertNotIn(one, NOT_USED)
        for one in own_values():
            self.assertNotIn(one, NOT_VALUES + NOT_USED)
        known = own_methods() + own_values() + METHODS
        for name in names_of_files():
            for node in nodes_of(name):
                if isinstance(node, ast.Attribute):
                    self.assertIn(node.attr, known)

    def test_no_local_is_called_like_a_class_or_an_import(self):
        for name in names_of_files():
            nodes = nodes_of(name)
            classes = [node.name for node in nodes if isinstance(node, ast.ClassDef)]
            for one in classes:
                self.assertEqual(bound_names(nodes).count(one), 1, one)
            for node in nodes:
                if isinstance(node, ast.ImportFrom):
                    for one in node.names:
                        self.assertEqual(bound_names(nodes).count(one.name), 0, one.name)

    def test_the_function_of_the_interface_stands_in_its_own_file_alone(self):
        for name in names_of_files():
            top = [one.name for one in ast.parse(text_of(name)).body
                   if isinstance(one, (ast.FunctionDef, ast.ClassDef))]
            self.assertEqual(top.count("answers"), 1 if name == "net.py" else 0)

    def test_no_two_files_draw_from_one_another(self):
        drawn = {}
        for name in names_of_files():
            drawn[name] = [node.module.split(".")[1] + ".py" for node in nodes_of(name)
                           if isinstance(node, ast.ImportFrom)]
        left = list(drawn)
        while left:
            free = [name for name in left if not set(drawn[name]) & set(left)]
            self.assertNotEqual(free, [], left)
            left = [name for name in left if name not in free]
