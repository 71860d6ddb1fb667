"""What can be seen from outside of the form that the package's files keep to."""

import ast
import builtins
import os
import re
import unittest

FOLDER = os.path.join(os.path.dirname(os.path.dirname(os.path.abspath(__file__))), "wellkind")

STATEMENTS = (
    ast.Module, ast.FunctionDef, ast.ClassDef, ast.ImportFrom, ast.Assign, ast.AugAssign, ast.If, ast.While,
    ast.For, ast.Return, ast.Break, ast.Continue, ast.Pass, ast.Raise, ast.Try, ast.ExceptHandler, ast.Expr,
)
EXPRESSIONS = (
    ast.Constant, ast.List, ast.Tuple, ast.Dict, ast.Set, ast.BinOp, ast.UnaryOp, ast.BoolOp, ast.Compare,
    ast.IfExp, ast.Call, ast.Attribute, ast.Subscript, ast.Slice, ast.ListComp, ast.comprehension, ast.Name,
    ast.JoinedStr, ast.FormattedValue, ast.Lambda, ast.arguments, ast.arg, ast.alias, ast.keyword,
    ast.expr_context, ast.operator, ast.unaryop, ast.boolop, ast.cmpop,
)
OUT = (ast.Div, ast.MatMult)
BUILT_IN = """len range enumerate zip min max sum abs sorted reversed int str bool list tuple dict set frozenset
isinstance ord repr any all divmod Exception ValueError TypeError KeyError IndexError LookupError
ZeroDivisionError ArithmeticError OverflowError RuntimeError NotImplementedError AttributeError
StopIteration""".split()
METHODS = """append clear copy count endswith extend find get index insert isalnum isalpha isdigit islower
isspace isupper items join keys ljust lower lstrip partition pop remove replace reverse rfind rjust
rpartition rsplit rstrip setdefault split splitlines startswith strip update upper values zfill
bit_length""".split()
NEVER = """type typing typing_extensions enum Enum IntEnum StrEnum Flag IntFlag Generic Protocol ABC ABCMeta
namedtuple NamedTuple TypedDict TYPE_CHECKING abstractmethod""".split()


def sources():
    told = {}
    for entry in sorted(os.listdir(FOLDER)):
        if entry.endswith(".py"):
            with open(os.path.join(FOLDER, entry), encoding="utf-8", newline="") as file:
                told[entry] = file.read()
    return told


def defined(tree):
    return [node.name for node in tree.body if isinstance(node, (ast.FunctionDef, ast.ClassDef))] + [
        node.targets[0].id for node in tree.body if isinstance(node, ast.Assign)]


def bound(tree):
    """Every name that the file binds anywhere."""
    names = set()
    for node in ast.walk(tree):
        if isinstance(node, (ast.FunctionDef, ast.ClassDef)):
            names.add(node.name)
        elif isinstance(node, ast.arg):
            names.add(node.arg)
        elif isinstance(node, ast.Name) and isinstance(node.ctx, ast.Store):
            names.add(node.id)
        elif isinstance(node, ast.ImportFrom):
            names.update(alias.name for alias in node.names)
    return names


class Form(unittest.TestCase):
    def setUp(self):
        self.texts = sources()
        self.trees = {entry: ast.parse(text) for entry, text in self.texts.items()}

    def nodes(self):
        for entry, tree in self.trees.items():
            for node in ast.walk(tree):
                where = f"{entry}:{getattr(node, 'lineno', 0)}"
                yield where, node

    def test_files(self):
        self.assertIn("__init__.py", self.texts)
        for entry in os.listdir(FOLDER):
            self.assertTrue(entry == "__pycache__" or re.fullmatch(r"[a-z0-9_]+\.py", entry), entry)

    def test_signs_words_and_sizes(self):
        for entry, text in self.texts.items():
            lines = text.split("\n")
            self.assertTrue(all(sign == "\n" or " " <= sign <= "~" for sign in text), entry)
            self.assertLessEqual(len(lines), 401, entry)
            self.assertTrue(all(len(line) <= 120 for line in lines), entry)
            self.assertEqual([word for word in re.findall(r"\w+", text) if word in NEVER], [], entry)
            self.assertNotRegex(text, "dataclass|overload|contextmanager")
        for where, node in self.nodes():
            if isinstance(node, ast.FunctionDef):
                self.assertLessEqual(node.end_lineno - node.lineno + 1, 40, where)

    def test_imports(self):
        drawn = {}
        for entry, tree in self.trees.items():
            drawn[entry] = []
            for node in ast.walk(tree):
                if isinstance(node, ast.ImportFrom):
                    self.assertIn(node, tree.body, entry)
                    self.assertEqual(node.level, 0, entry)
                    source = node.module.removeprefix("wellkind.") + ".py"
                    drawn[entry].append(source)
                    for alias in node.names:
                        self.assertIn(alias.name, defined(self.trees[source]), entry)
        while drawn:
            ends = [entry for entry in drawn if not any(source in drawn for source in drawn[entry])]
            self.assertNotEqual(ends, [], "files draw from one another")
            for entry in ends:
                drawn.pop(entry)

    def test_only_plain_statements_and_expressions(self):
        for where, node in self.nodes():
            self.assertIsInstance(node, STATEMENTS + EXPRESSIONS, where)
            self.assertNotIsInstance(node, OUT, where)
            if isinstance(node, ast.Assign):
                self.assertEqual(len(node.targets), 1, where)
            if isinstance(node, (ast.FunctionDef, ast.ClassDef)):
                self.assertEqual(node.decorator_list, [], where)
            if isinstance(node, ast.arguments):
                self.assertEqual((node.vararg, node.kwarg, node.kwonlyargs), (None, None, []), where)
            if isinstance(node, (ast.While, ast.For)):
                self.assertEqual(node.orelse, [], where)
            if isinstance(node, ast.Try):
                self.assertEqual(node.finalbody, [], where)
            if isinstance(node, ast.ListComp):
                self.assertEqual(len(node.generators), 1, where)
                self.assertLessEqual(len(node.generators[0].ifs), 1, where)
            if isinstance(node, ast.Constant):
                self.assertIn(type(node.value), (int, str, bool, type(None)), where)

    def test_is_stands_beside_none_true_and_false_alone(self):
        for where, node in self.nodes():
            if isinstance(node, ast.Compare):
                for sign, right in zip(node.ops, node.comparators):
                    if isinstance(sign, (ast.Is, ast.IsNot)):
                        self.assertIsInstance(right, ast.Constant, where)
                        self.assertIn(type(right.value), (bool, type(None)), where)

    def test_names(self):
        for entry, tree in self.trees.items():
            names = bound(tree)
            self.assertEqual([name for name in sorted(names) if name in dir(builtins)], [], entry)
            self.assertEqual([name for name in sorted(names) if name.startswith("_") and name != "__init__"], [])
            tops = defined(tree)
            self.assertEqual(len(tops), len(set(tops)), entry)
        for where, node in self.nodes():
            if isinstance(node, ast.Name) and isinstance(node.ctx, ast.Load):
                names = bound(self.trees[where.split(":")[0]])
                self.assertTrue(node.id in names or node.id in BUILT_IN, f"{where} {node.id}")

    def test_no_local_is_called_like_a_class_or_an_import(self):
        for entry, tree in self.trees.items():
            tops = [node.name for node in tree.body if isinstance(node, ast.ClassDef)]
            for node in tree.body:
                if isinstance(node, ast.ImportFrom):
                    tops.extend(alias.name for alias in node.names)
            locals_of = [node.arg for node in ast.walk(tree) if isinstance(node, ast.arg)] + [
                node.id for node in ast.walk(tree) if isinstance(node, ast.Name) and isinstance(node.ctx, ast.Store)]
            self.assertEqual([name for name in locals_of if name in tops], [], entry)

    def test_values_of_objects(self):
        methods = {node.name for where, node in self.nodes() if isinstance(node, ast.FunctionDef)}
        taken = {name for sort in (str, int, list, dict, set, bytes) for name in dir(sort)} | methods
        for where, node in self.nodes():
            if isinstance(node, ast.Attribute) and isinstance(node.ctx, ast.Store):
                self.assertIsInstance(node.value, ast.Name, where)
                self.assertNotIn(node.attr, taken, where)

    def test_classes(self):
        for where, node in self.nodes():
            if isinstance(node, ast.ClassDef):
                self.assertLessEqual(len(node.bases), 1, where)
                self.assertEqual(node.keywords, [], where)
                for row in node.body:
                    self.assertIsInstance(row, (ast.FunctionDef, ast.Pass), where)

    def test_nothing_is_walked_later(self):
        """zip, reversed and their like stand behind `in` or first in list, tuple and so on."""
        for where, node in self.nodes():
            on_the_spot = []
            if isinstance(node, (ast.For, ast.comprehension)):
                on_the_spot = [node.iter]
            elif isinstance(node, ast.Call) and isinstance(node.func, ast.Name):
                if node.func.id in ("list", "tuple", "dict", "sorted", "sum", "any", "all", "enumerate", "zip"):
                    on_the_spot = node.args[:1]
            for child in on_the_spot:
                child.walked = True
        for where, node in self.nodes():
            if isinstance(node, ast.Call):
                called = node.func.id if isinstance(node.func, ast.Name) else node.func.attr
                if called in ("zip", "enumerate", "reversed", "range", "items", "keys", "values"):
                    self.assertTrue(getattr(node, "walked", False), where)

    def test_methods(self):
        own = {node.name for where, node in self.nodes() if isinstance(node, ast.FunctionDef)}
        for where, node in self.nodes():
            if isinstance(node, ast.Call) and isinstance(node.func, ast.Attribute):
                self.assertTrue(node.func.attr in METHODS or node.func.attr in own, f"{where} {node.func.attr}")


if __name__ == "__main__":
    unittest.main()
