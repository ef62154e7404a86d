"""The package keeps to the small part of Python that it is written in, as far as a walk over its code can see."""

import ast
import builtins
import keyword
import pathlib
import re
import unittest

PACKAGE = pathlib.Path(__file__).resolve().parent.parent / "tightrows"

NODES = (
    ast.Module, ast.FunctionDef, ast.ClassDef, ast.arguments, ast.arg, ast.Return, ast.Assign, ast.AugAssign, ast.For,
    ast.While, ast.If, ast.Raise, ast.Try, ast.ExceptHandler, ast.ImportFrom, ast.alias, ast.Expr, ast.Pass, ast.Break,
    ast.Continue, ast.BoolOp, ast.BinOp, ast.UnaryOp, ast.Lambda, ast.IfExp, ast.Dict, ast.ListComp,
    ast.comprehension, ast.Compare, ast.Call, ast.keyword, ast.JoinedStr, ast.FormattedValue, ast.Constant,
    ast.Attribute, ast.Subscript, ast.Slice, ast.Name, ast.List, ast.Tuple, ast.expr_context, ast.boolop, ast.operator,
    ast.unaryop, ast.cmpop,
)
OPERATORS_OUT = (ast.Div, ast.MatMult, ast.Pow)
NAMES = set("""
    len range enumerate zip min max sum abs sorted reversed int str bool list tuple dict set frozenset isinstance ord
    repr any all divmod Exception ValueError TypeError KeyError IndexError LookupError ZeroDivisionError
    ArithmeticError OverflowError RuntimeError NotImplementedError StopIteration
""".split())
METHODS = set("""
    append clear copy count endswith extend find get index insert isalnum isalpha isdigit islower isspace isupper items
    join keys ljust lower lstrip partition pop remove replace reverse rfind rjust rpartition rsplit rstrip setdefault
    split splitlines startswith strip update upper values zfill bit_length
""".split())
WORDS_OUT = re.compile(
    r"\b(type|typing|typing_extensions|enum|Enum|IntEnum|StrEnum|Flag|IntFlag|Generic|Protocol|ABC|ABCMeta|namedtuple|"
    r"NamedTuple|TypedDict|TYPE_CHECKING|abstractmethod|register|mro|elements|open|input|version_info|with_traceback|"
    r"add_note)\b|dataclass|overload|contextmanager"
)
KEYWORDS = {"key", "reverse", "default", "start", "strict"}
OWN_NAMES = (str, int, list, tuple, dict, set, frozenset, bytes)


def sources():
    return sorted(PACKAGE.glob("*.py"))


def walk(path):
    return ast.walk(ast.parse(path.read_text()))


def bound_names(tree):
    found = set()
    for node in ast.walk(tree):
        if isinstance(node, (ast.FunctionDef, ast.ClassDef)):
            found.add(node.name)
        if isinstance(node, ast.arg):
            found.add(node.arg)
        if isinstance(node, ast.alias):
            found.add(node.name)
        if isinstance(node, ast.Name) and isinstance(node.ctx, ast.Store):
            found.add(node.id)
    return found


def own_methods():
    classes = [node for path in sources() for node in walk(path) if isinstance(node, ast.ClassDef)]
    return {each.name for node in classes for each in node.body if isinstance(each, ast.FunctionDef)}


def own_values():
    nodes = [node for path in sources() for node in walk(path)]
    return {node.attr for node in nodes if isinstance(node, ast.Attribute) and isinstance(node.ctx, ast.Store)}


class Language(unittest.TestCase):
    def test_files(self):
        found = [path.name for path in PACKAGE.iterdir() if path.name != "__pycache__"]
        self.assertIn("__init__.py", found)
        for name in set(found) - {"__init__.py"}:
            self.assertRegex(name, r"^[a-z][a-z0-9_]*\.py$")
            self.assertFalse(hasattr(builtins, name[:-3]) or keyword.iskeyword(name[:-3]), name)

    def test_size_and_signs(self):
        for path in sources():
            text = path.read_text()
            rows = text.split("\n")
            self.assertLessEqual(len(rows), 400, path)
            self.assertLessEqual(max(len(row) for row in rows), 120, path)
            self.assertRegex(text, r"\A[ -~\n]*\Z", path)
            self.assertIsNone(WORDS_OUT.search(text), path)
            for node in walk(path):
                if isinstance(node, ast.FunctionDef):
                    self.assertLessEqual(node.end_lineno - node.lineno + 1, 40, node.name)

    def test_forms(self):
        for path in sources():
            for node in walk(path):
                place = f"{path.name}:{getattr(node, 'lineno', 0)}"
                self.assertIsInstance(node, NODES, place)
                self.assertNotIsInstance(node, OPERATORS_OUT, place)
                if isinstance(node, ast.Assign):
                    self.assertEqual(len(node.targets), 1, place)
                if isinstance(node, (ast.For, ast.While, ast.Try)):
                    self.assertEqual(getattr(node, "finalbody", []), [], place)
                if isinstance(node, (ast.For, ast.While)):
                    self.assertEqual(node.orelse, [], place)
                if isinstance(node, ast.ListComp):
                    self.assertEqual(len(node.generators), 1, place)
                    self.assertLessEqual(len(node.generators[0].ifs), 1, place)
                if isinstance(node, (ast.FunctionDef, ast.ClassDef)):
                    self.assertEqual(node.decorator_list, [], place)
                if isinstance(node, ast.arguments):
                    self.assertEqual((node.vararg, node.kwarg, node.kwonlyargs), (None, None, []), place)
                if isinstance(node, ast.Constant):
                    self.assertIn(node.value.__class__, (int, str, bool, None.__class__), place)
                    self.assertFalse(isinstance(node.value, str) and "%" in node.value, place)
                if isinstance(node, ast.Compare):
                    self.check_is(node, place)

    def check_is(self, node, place):
        for operator, right in zip(node.ops, node.comparators):
            if isinstance(operator, (ast.Is, ast.IsNot)):
                self.assertTrue(isinstance(right, ast.Constant) and right.value in (None, True, False), place)

    def test_names(self):
        for path in sources():
            tree = ast.parse(path.read_text())
            bound = bound_names(tree)
            for name in bound - {"__init__", "__eq__", "__repr__", "__str__", "__len__"} - METHODS - {"add"}:
                self.assertRegex(name, r"^[A-Za-z][A-Za-z0-9_]*$", path)
                self.assertFalse(hasattr(builtins, name), (path, name))
            for node in ast.walk(tree):
                if isinstance(node, ast.Name):
                    self.assertIn(node.id, bound | NAMES, path)

    def test_imports(self):
        for path in sources():
            for node in walk(path):
                if isinstance(node, ast.ImportFrom):
                    self.assertRegex(node.module, r"^tightrows\.[a-z]+$", path)
                    self.assertEqual(node.level, 0, path)
                    self.assertEqual([each.asname for each in node.names if each.asname], [], path)

    def test_no_local_is_called_like_an_import_or_a_class(self):
        for path in sources():
            nodes = list(walk(path))
            drawn = {node.name for node in nodes if isinstance(node, (ast.alias, ast.ClassDef))}
            local = {node.arg for node in nodes if isinstance(node, ast.arg)}
            local |= {node.id for node in nodes if isinstance(node, ast.Name) and isinstance(node.ctx, ast.Store)}
            self.assertEqual(drawn & local, set(), path)

    def test_each_name_is_drawn_from_the_file_that_defines_it(self):
        for path in sources():
            for node in walk(path):
                if isinstance(node, ast.ImportFrom):
                    tree = ast.parse((PACKAGE / (node.module.split(".")[1] + ".py")).read_text())
                    defined = {each.name for each in tree.body if isinstance(each, (ast.FunctionDef, ast.ClassDef))}
                    defined |= {each.targets[0].id for each in tree.body if isinstance(each, ast.Assign)}
                    for each in node.names:
                        self.assertIn(each.name, defined, path)

    def test_sets_are_not_kept(self):
        for path in sources():
            for node in walk(path):
                if isinstance(node, (ast.Assign, ast.Return)) and isinstance(node.value, ast.Call):
                    self.assertNotEqual(getattr(node.value.func, "id", ""), "set", path)

    def test_what_is_walked_at_once_is_not_kept(self):
        for path in sources():
            for node in walk(path):
                if isinstance(node, (ast.Assign, ast.Return)) and isinstance(node.value, ast.Call):
                    called = node.value.func
                    name = getattr(called, "id", getattr(called, "attr", ""))
                    self.assertNotIn(name, ("zip", "enumerate", "reversed", "range", "items", "keys", "values"), path)

    def test_no_method_is_handed_on(self):
        for path in sources():
            nodes = list(walk(path))
            called = [node.func for node in nodes if isinstance(node, ast.Call)]
            for node in nodes:
                if isinstance(node, ast.Attribute) and node.attr in METHODS | own_methods():
                    self.assertIn(node, called, (path, node.attr))

    def test_methods_and_values(self):
        methods, values = own_methods(), own_values()
        self.assertEqual(methods & values, set())
        for name in values:
            self.assertFalse(any(hasattr(own, name) for own in OWN_NAMES) and name not in ("count", "index"), name)
        for path in sources():
            for node in walk(path):
                if isinstance(node, ast.Attribute):
                    self.assertIn(node.attr, METHODS | methods | values, path)
                if isinstance(node, ast.keyword):
                    self.assertIn(node.arg, KEYWORDS, path)

    def test_the_top_of_a_file_keeps_plain_values(self):
        for path in sources():
            tree = ast.parse(path.read_text())
            self.assertIsNotNone(ast.get_docstring(tree), path)
            for node in tree.body[1:]:
                self.assertIsInstance(node, (ast.ImportFrom, ast.FunctionDef, ast.ClassDef, ast.Assign), path)


if __name__ == "__main__":
    unittest.main()
