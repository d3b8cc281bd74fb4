"""The package keeps to the small part of Python that is asked for, as far as its text shows it."""

import ast
import builtins
import os
import re
import unittest

ROOT = os.path.dirname(os.path.dirname(os.path.abspath(__file__)))
PACKAGE = os.path.join(ROOT, "twoaskedapart")

OWN_NAMES = set(
    "len range enumerate zip min max sum abs sorted reversed int str bool list tuple dict set frozenset isinstance "
    "ord repr any all divmod Exception ValueError TypeError KeyError IndexError LookupError ZeroDivisionError "
    "ArithmeticError OverflowError RuntimeError NotImplementedError AttributeError StopIteration".split())
METHODS = set(
    "append clear copy count endswith extend find get index insert isalnum isalpha isdigit islower isspace isupper "
    "items join keys ljust lower lstrip partition pop remove replace reverse rfind rjust rpartition rsplit rstrip "
    "setdefault split splitlines startswith strip update upper values zfill bit_length".split())
WORDS_NOWHERE = re.compile(
    r"\b(type|typing|typing_extensions|enum|Enum|IntEnum|StrEnum|Flag|IntFlag|Generic|Protocol|ABC|ABCMeta|"
    r"namedtuple|NamedTuple|TypedDict|TYPE_CHECKING|abstractmethod)\b|dataclass|overload|contextmanager")
STATEMENTS = (
    ast.Module, ast.FunctionDef, ast.ClassDef, ast.Assign, ast.AugAssign, ast.If, ast.While, ast.For, ast.Return,
    ast.Break, ast.Continue, ast.Pass, ast.Raise, ast.Expr)
EXPRESSIONS = (
    ast.Constant, ast.Name, ast.Attribute, ast.Subscript, ast.Slice, ast.Call, ast.BinOp, ast.UnaryOp, ast.BoolOp,
    ast.Compare, ast.IfExp, ast.List, ast.Tuple, ast.Dict, ast.ListComp, ast.comprehension, ast.arguments, ast.arg,
    ast.keyword)
SIGNS = (
    ast.Load, ast.Store, ast.Add, ast.Sub, ast.Mult, ast.FloorDiv, ast.Mod, ast.USub, ast.Not, ast.And, ast.Or,
    ast.BitAnd, ast.Eq, ast.NotEq, ast.Lt, ast.LtE, ast.Gt, ast.GtE, ast.In, ast.NotIn, ast.Is, ast.IsNot)
WALKED_IN = ("list", "tuple", "dict", "sorted", "sum", "any", "all", "enumerate", "zip")
CHANGING = ("append", "clear", "extend", "insert", "pop", "remove", "reverse", "setdefault", "update")
PLAIN = (ast.Constant, ast.UnaryOp, ast.USub, ast.Tuple, ast.Load)


def package_files():
    found = []
    for folder, folders, names in os.walk(PACKAGE):
        folders[:] = [name for name in folders if name != "__pycache__"]
        found.extend(os.path.join(folder, name) for name in names)
    return sorted(found)


def text_of(path):
    with open(path, encoding="utf-8") as file:
        return file.read()


def nodes(kinds):
    for path in package_files():
        for node in ast.walk(ast.parse(text_of(path))):
            if isinstance(node, kinds):
                yield node


def nodes_with_parents(kinds):
    for path in package_files():
        for parent in ast.walk(ast.parse(text_of(path))):
            for node in ast.iter_child_nodes(parent):
                if isinstance(node, kinds):
                    yield node, parent


def called_name(node):
    """The name of Python's own, or of a method, that is called here; else an empty text."""
    if not isinstance(node, ast.Call):
        return ""
    return node.func.id if isinstance(node.func, ast.Name) else node.func.attr


def own_methods():
    return {part.name for node in nodes(ast.ClassDef) for part in node.body if isinstance(part, ast.FunctionDef)}


class Text(unittest.TestCase):
    def test_files(self):
        self.assertEqual([os.path.relpath(path, PACKAGE) for path in package_files()], ["__init__.py", "plans.py"])

    def test_signs_and_size(self):
        for path in package_files():
            text = text_of(path)
            self.assertEqual([sign for sign in text if sign != "\n" and not " " <= sign <= "~"], [])
            self.assertLessEqual(len(text.splitlines()), 400)
            self.assertLessEqual(max(len(row) for row in text.splitlines()), 120)
            self.assertIsNone(WORDS_NOWHERE.search(text))

    def test_functions_are_short(self):
        for node in nodes(ast.FunctionDef):
            self.assertLessEqual(node.end_lineno - node.lineno + 1, 40, node.name)


class Form(unittest.TestCase):
    def test_only_these_forms(self):
        for node in nodes(ast.AST):
            self.assertIsInstance(node, STATEMENTS + EXPRESSIONS + SIGNS)

    def test_constants(self):
        for node in nodes(ast.Constant):
            self.assertTrue(node.value is None or isinstance(node.value, (bool, int, str)))
            if isinstance(node.value, str):
                self.assertNotIn("%", node.value)

    def test_top_of_a_file(self):
        for path in package_files():
            bound = []
            for node in ast.parse(text_of(path)).body:
                self.assertIsInstance(node, (ast.Expr, ast.Assign, ast.FunctionDef, ast.ClassDef))
                if isinstance(node, ast.Expr):
                    self.assertIsInstance(node.value, ast.Constant)
                elif isinstance(node, ast.Assign):
                    for part in ast.walk(node.value):
                        self.assertIsInstance(part, PLAIN)
                    bound.append(node.targets[0].id)
                else:
                    bound.append(node.name)
            self.assertEqual(len(bound), len(set(bound)))

    def test_functions_and_classes(self):
        for node in nodes((ast.FunctionDef, ast.ClassDef)):
            self.assertEqual(node.decorator_list, [])
        for node in nodes(ast.arguments):
            self.assertEqual((node.posonlyargs, node.kwonlyargs, node.vararg, node.kwarg), ([], [], None, None))
        for node in nodes(ast.ClassDef):
            for part in node.body:
                self.assertTrue(isinstance(part, ast.FunctionDef) or isinstance(part.value, ast.Constant))

    def test_assignments_and_loops(self):
        for node in nodes(ast.Assign):
            self.assertEqual(len(node.targets), 1)
            self.assertIsInstance(node.targets[0], (ast.Name, ast.Attribute, ast.Subscript))
        for node in nodes((ast.While, ast.For)):
            self.assertEqual(node.orelse, [])
        for node in nodes(ast.ListComp):
            self.assertEqual(len(node.generators), 1)
            self.assertLessEqual(len(node.generators[0].ifs), 1)

    def test_is_beside_none_true_false(self):
        for node in nodes(ast.Compare):
            if any(isinstance(sign, (ast.Is, ast.IsNot)) for sign in node.ops):
                self.assertIn(node.comparators[0].value, (None, True, False))


class Walks(unittest.TestCase):
    def test_walked_at_once(self):
        for node, parent in nodes_with_parents(ast.Call):
            if called_name(node) in ("zip", "enumerate", "reversed", "range", "items", "keys", "values"):
                if isinstance(parent, ast.Call):
                    alone = called_name(parent) in ("min", "max") and len(parent.args) == 1
                    self.assertTrue(alone or called_name(parent) in WALKED_IN and parent.args[0] is node, node.lineno)
                else:
                    self.assertIsInstance(parent, (ast.For, ast.comprehension))
                    self.assertIs(parent.iter, node)

    def test_what_is_walked_is_not_changed(self):
        for loop in nodes(ast.For):
            walked = ast.unparse(loop.iter)
            for node in ast.walk(loop):
                if isinstance(node, ast.Subscript) and isinstance(node.ctx, ast.Store):
                    self.assertNotEqual(ast.unparse(node.value), walked)
                if called_name(node) in CHANGING:
                    self.assertNotEqual(ast.unparse(node.func.value), walked)

    def test_keywords(self):
        for node in nodes(ast.Call):
            for keyword in node.keywords:
                self.assertIn(called_name(node), ("sorted", "min", "max"))
                self.assertEqual((keyword.arg, ast.unparse(keyword.value)), ("key", "len"))

    def test_methods_are_called_where_they_stand(self):
        for node, parent in nodes_with_parents(ast.Attribute):
            if node.attr in METHODS | own_methods():
                self.assertTrue(isinstance(parent, ast.Call) and parent.func is node, node.lineno)

    def test_pythons_own_and_classes_are_called(self):
        classes = {node.name for node in nodes(ast.ClassDef)}
        for node, parent in nodes_with_parents(ast.Name):
            if node.id in classes or node.id in OWN_NAMES:
                named_as_key = isinstance(parent, ast.keyword) and node.id == "len"
                self.assertTrue(named_as_key or isinstance(parent, ast.Call) and parent.func is node, node.lineno)


class Names(unittest.TestCase):
    def test_plain_names(self):
        names = [node.id for node in nodes(ast.Name)] + [node.arg for node in nodes(ast.arg)]
        names += [node.attr for node in nodes(ast.Attribute)]
        names += [node.name for node in nodes((ast.FunctionDef, ast.ClassDef))]
        for name in names:
            self.assertTrue(name == "__init__" or re.fullmatch(r"[A-Za-z][A-Za-z0-9_]*", name), name)

    def test_names_of_pythons_own(self):
        stored = [node.id for node in nodes(ast.Name) if isinstance(node.ctx, ast.Store)]
        stored += [node.arg for node in nodes(ast.arg)]
        stored += [node.name for node in nodes((ast.FunctionDef, ast.ClassDef))]
        self.assertEqual([name for name in stored if name in dir(builtins)], [])
        for node in nodes(ast.Name):
            self.assertTrue(node.id in OWN_NAMES or node.id not in dir(builtins), node.id)

    def test_locals_are_not_called_like_classes(self):
        classes = {node.name for node in nodes(ast.ClassDef)}
        stored = {node.id for node in nodes(ast.Name) if isinstance(node.ctx, ast.Store)}
        self.assertEqual(classes & (stored | {node.arg for node in nodes(ast.arg)}), set())

    def test_methods_and_values(self):
        own = own_methods()
        kept = {node.attr for node in nodes(ast.Attribute) if isinstance(node.ctx, ast.Store)}
        self.assertEqual(own & kept, set())
        pythons = set(dir(str) + dir(int) + dir(list) + dir(dict) + dir(set) + dir(bytes)) - {"__init__"}
        self.assertEqual((own | kept) & pythons, set())
        for node in nodes(ast.Attribute):
            self.assertIn(node.attr, METHODS | own | kept)


if __name__ == "__main__":
    unittest.main()
