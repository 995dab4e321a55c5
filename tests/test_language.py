"""Holds the package's files to the rules of the language part that they keep to (L1 to L28).

What a short look at the syntax tree can see is looked at here; each check names the rules it is for.
"""

import ast
import builtins
import pathlib
import re
import unittest

PACKAGE = pathlib.Path(__file__).resolve().parent.parent / "evenring"

NODES = (
    ast.Module, ast.FunctionDef, ast.ClassDef, ast.ImportFrom, ast.alias, ast.arguments, ast.arg,
    ast.Assign, ast.AugAssign, ast.If, ast.While, ast.For, ast.Return, ast.Break, ast.Continue, ast.Pass,
    ast.Raise, ast.Try, ast.ExceptHandler, ast.Expr, ast.Constant, ast.List, ast.Tuple, ast.Dict, ast.Set,
    ast.BinOp, ast.UnaryOp, ast.BoolOp, ast.Compare, ast.IfExp, ast.Call, ast.keyword, ast.Attribute,
    ast.Subscript, ast.Slice, ast.Name, ast.ListComp, ast.comprehension, ast.JoinedStr, ast.FormattedValue,
    ast.Lambda, ast.operator, ast.unaryop, ast.boolop, ast.cmpop, ast.expr_context,
)
OWN_OF_PYTHON = set(
    "len range enumerate zip min max sum abs sorted reversed int str bool list tuple dict set frozenset isinstance"
    " ord repr any all divmod Exception ValueError TypeError KeyError IndexError LookupError ZeroDivisionError"
    " ArithmeticError OverflowError RuntimeError NotImplementedError StopIteration".split())
METHODS_OF_PYTHON = set(
    "append clear copy count endswith extend find get index insert isalnum isalpha isdigit islower isspace isupper"
    " items join keys ljust lower lstrip partition pop remove replace reverse rfind rjust rpartition rsplit rstrip"
    " setdefault split splitlines startswith strip update upper values zfill bit_length".split())
METHODS_WITH_UNDERSCORES = {"__init__", "__eq__", "__repr__", "__str__", "__len__"}
UNUSED_NAMES = set(
    "register mro elements open input version_info with_traceback add_note format format_map attrgetter breakpoint"
    " builtins compile copyright credits delattr dir eval exec exit gc getattr globals hasattr help id importlib"
    " license locals methodcaller os quit setattr super type vars sys".split())
UNUSED_WORDS = re.compile(
    r"\b(type|typing|typing_extensions|enum|Enum|IntEnum|StrEnum|Flag|IntFlag|Generic|Protocol|ABC|ABCMeta|namedtuple"
    r"|NamedTuple|TypedDict|TYPE_CHECKING|abstractmethod)\b|dataclass|overload|contextmanager")
PLAIN_NAME = re.compile(r"[A-Za-z][A-Za-z0-9_]*")


def files():
    return sorted(PACKAGE.rglob("*.py"))


def tree_of(path):
    return ast.parse(path.read_text(encoding="utf-8"))


def parsed_files():
    return [(path, tree_of(path)) for path in files()]


def is_docstring(statement):
    return isinstance(statement, ast.Expr) and isinstance(statement.value, ast.Constant) and isinstance(
        statement.value.value, str)


def is_plain(value):
    if isinstance(value, ast.UnaryOp) and isinstance(value.op, ast.USub):
        value = value.operand
    if isinstance(value, (ast.List, ast.Tuple)):
        return all(is_plain(part) for part in value.elts)
    if isinstance(value, ast.Dict):
        return all(is_plain(part) for part in value.keys + value.values)
    return isinstance(value, (ast.Constant, ast.Name))


def bound_names(tree):
    """Every name that a file gives to something, with the row it stands in."""
    for node in ast.walk(tree):
        if isinstance(node, (ast.FunctionDef, ast.ClassDef)):
            yield node.name, node.lineno
        elif isinstance(node, ast.arg):
            yield node.arg, node.lineno
        elif isinstance(node, (ast.Name, ast.Attribute)) and isinstance(node.ctx, ast.Store):
            yield node.id if isinstance(node, ast.Name) else node.attr, node.lineno


class LanguageTest(unittest.TestCase):
    def test_files(self):  # L1, L14
        self.assertTrue((PACKAGE / "__init__.py").is_file())
        for path in PACKAGE.rglob("*"):
            if "__pycache__" in path.parts:
                continue
            self.assertEqual(path.suffix, ".py")
            if path.stem == "__init__":
                continue
            self.assertRegex(path.stem, r"\A[a-z][a-z0-9_]*\Z")
            self.assertFalse(hasattr(builtins, path.stem) or path.stem in UNUSED_NAMES, path)
            self.assertFalse(path.stem.startswith("test") or path.stem in ("site", "conftest"), path)

    def test_signs_and_size(self):  # L10, L14, L27
        for path, tree in parsed_files():
            text = path.read_bytes()
            self.assertTrue(all(sign == 10 or 32 <= sign <= 126 for sign in text))
            rows = text.decode("ascii").split("\n")
            self.assertLessEqual(len(rows), 400)
            self.assertLessEqual(max(len(row) for row in rows), 120)
            for node in ast.walk(tree):
                if isinstance(node, ast.FunctionDef):
                    self.assertLessEqual(node.end_lineno - node.lineno + 1, 40, node.name)
                if isinstance(node, ast.Constant) and isinstance(node.value, str):
                    self.assertNotIn("%", node.value)

    def test_words_that_stand_nowhere(self):  # L17
        for path, tree in parsed_files():
            self.assertIsNone(UNUSED_WORDS.search(path.read_text(encoding="utf-8")))

    def test_imports(self):  # L2, L16
        drawn = {}
        for path, tree in parsed_files():
            drawn[path.stem] = []
            for node in ast.walk(tree):
                self.assertNotIsInstance(node, ast.Import)
                if isinstance(node, ast.ImportFrom):
                    self.assertIn(node, tree.body)
                    self.assertEqual(node.level, 0)
                    self.assertRegex(node.module, r"\Aevenring\.[a-z0-9_]+\Z")
                    source = node.module.split(".")[1]
                    tops = tree_of(PACKAGE / (source + ".py")).body
                    defined = [top.name for top in tops if isinstance(top, (ast.FunctionDef, ast.ClassDef))]
                    defined += [top.targets[0].id for top in tops if isinstance(top, ast.Assign)]
                    for alias in node.names:
                        self.assertIn(alias.name, defined)
                    drawn[path.stem].append(source)
        while drawn:
            free = [name for name in drawn if not any(source in drawn for source in drawn[name])]
            self.assertTrue(free, "files draw from one another")
            drawn = {name: drawn[name] for name in drawn if name not in free}

    def test_the_top_of_a_module(self):  # L3, L15
        for path, tree in parsed_files():
            names = []
            for place, top in enumerate(tree.body):
                if place == 0 and is_docstring(top):
                    continue
                self.assertIsInstance(top, (ast.ImportFrom, ast.FunctionDef, ast.ClassDef, ast.Assign))
                if isinstance(top, ast.Assign):
                    self.assertTrue(is_plain(top.value), (path.name, top.lineno))
                    names.append(top.targets[0].id)
                elif isinstance(top, ast.ImportFrom):
                    names += [alias.asname or alias.name for alias in top.names]
                else:
                    names.append(top.name)
            self.assertEqual(len(names), len(set(names)))

    def test_statements_and_expressions(self):  # L6, L7, L13, L20, L21
        for path, tree in parsed_files():
            docstrings = [node.body[0] for node in ast.walk(tree)
                          if isinstance(node, (ast.Module, ast.ClassDef, ast.FunctionDef)) and node.body
                          and is_docstring(node.body[0])]
            for node in ast.walk(tree):
                self.assertIsInstance(node, NODES, path.name)
                self.assertNotIsInstance(node, (ast.Div, ast.MatMult))
                if isinstance(node, ast.Assign):
                    self.assertEqual(len(node.targets), 1)
                if isinstance(node, ast.Expr):
                    self.assertTrue(isinstance(node.value, ast.Call) or node in docstrings, (path.name, node.lineno))
                if isinstance(node, (ast.For, ast.While)):
                    self.assertEqual(node.orelse, [])
                if isinstance(node, ast.Try):
                    self.assertEqual(node.finalbody, [])
                    self.assertTrue(all(handler.type is not None for handler in node.handlers))
                if isinstance(node, ast.ListComp):
                    self.assertEqual(len(node.generators), 1)
                    self.assertLessEqual(len(node.generators[0].ifs), 1)
                if isinstance(node, ast.Constant):
                    self.assertIn(type(node.value), (int, str, bool, type(None)))
                if isinstance(node, ast.Compare) and any(isinstance(op, (ast.Is, ast.IsNot)) for op in node.ops):
                    self.assertIsInstance(node.comparators[0], ast.Constant)

    def test_functions(self):  # L4
        for path, tree in parsed_files():
            for node in ast.walk(tree):
                if isinstance(node, ast.FunctionDef):
                    self.assertEqual(node.decorator_list, [])
                if isinstance(node, ast.arguments):
                    self.assertEqual((node.vararg, node.kwarg, node.kwonlyargs, node.posonlyargs), (None, None, [], []))
                    self.assertTrue(all(is_plain(value) for value in node.defaults))

    def test_classes(self):  # L5, L18, L28
        methods = []
        values = []
        for path, tree in parsed_files():
            for node in ast.walk(tree):
                if not isinstance(node, ast.ClassDef):
                    continue
                self.assertIn(node, tree.body)
                self.assertLessEqual(len(node.bases), 1)
                self.assertEqual((node.keywords, node.decorator_list), ([], []))
                self.assertTrue(all(isinstance(part, (ast.FunctionDef, ast.Pass)) for part in node.body))
                own = [part.name for part in node.body if isinstance(part, ast.FunctionDef)]
                self.assertEqual(len(own), len(set(own)))
                methods += own
                values += [part.attr for part in ast.walk(node)
                           if isinstance(part, ast.Attribute) and isinstance(part.ctx, ast.Store)]
        self.assertEqual(set(methods) & set(values), set())

    def test_names(self):  # L8, L12, L15, L17
        for path, tree in parsed_files():
            for name, row in bound_names(tree):
                if name in METHODS_WITH_UNDERSCORES:
                    continue
                self.assertTrue(PLAIN_NAME.fullmatch(name), (path.name, row, name))
                self.assertFalse(hasattr(builtins, name) or name in UNUSED_NAMES, (path.name, row, name))
            given = {name for name, row in bound_names(tree)}
            for node in ast.walk(tree):
                if isinstance(node, ast.ImportFrom):
                    given |= {alias.asname or alias.name for alias in node.names}
            for node in ast.walk(tree):
                if isinstance(node, ast.Name) and isinstance(node.ctx, ast.Load) and node.id not in given:
                    self.assertIn(node.id, OWN_OF_PYTHON, (path.name, node.lineno))

    def test_attributes(self):  # L8, L17, L25, L26
        own = {"__init__"}
        for path in files():
            own |= {name for name, row in bound_names(tree_of(path))}
        for path, tree in parsed_files():
            for node in ast.walk(tree):
                if isinstance(node, ast.Attribute):
                    self.assertTrue(node.attr in own | METHODS_OF_PYTHON, (path.name, node.lineno, node.attr))
                    self.assertNotIn(node.attr, UNUSED_NAMES)

    def test_errors(self):  # L19
        for path, tree in parsed_files():
            for node in ast.walk(tree):
                if isinstance(node, ast.Raise):
                    self.assertIsInstance(node.exc, ast.Call)
                if isinstance(node, ast.ExceptHandler):
                    taken = {part.id for part in ast.walk(node.type) if isinstance(part, ast.Name)}
                    self.assertEqual(taken & {"Exception", "TypeError", "BaseException"}, set())


if __name__ == "__main__":
    unittest.main()
