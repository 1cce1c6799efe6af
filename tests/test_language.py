"""The package's files keep to the small part of Python that they are to be written in."""

import ast
import builtins
import keyword
import pathlib
import re
import unittest

ROOT = pathlib.Path(__file__).resolve().parent.parent
PACKAGE = ROOT / "soundlex"
FILES = sorted(path for path in PACKAGE.rglob("*") if "__pycache__" not in path.parts and path.is_file())

ALLOWED_NAMES = set(
    "len range enumerate zip min max sum abs sorted reversed int str bool list tuple dict set frozenset isinstance ord "
    "repr any all divmod Exception ValueError TypeError KeyError IndexError LookupError ZeroDivisionError "
    "ArithmeticError OverflowError RuntimeError NotImplementedError AttributeError StopIteration".split())
METHODS = set(
    "append clear copy count endswith extend find get index insert isalnum isalpha isdigit islower isspace isupper items "
    "join keys ljust lower lstrip partition pop remove replace reverse rfind rjust rpartition rsplit rstrip setdefault "
    "split splitlines startswith strip update upper values zfill bit_length".split())
OWN_METHODS_TOO = METHODS | {"add", "discard"}
VALUES_TOO = set("count index title find get join lower upper split strip copy add".split())
UNUSED = set(
    "register mro elements open input version_info with_traceback add_note attrgetter breakpoint builtins compile copyright "
    "credits delattr dir eval exec exit gc getattr globals hasattr help id importlib license locals methodcaller os quit "
    "setattr super type vars sys".split())
BANNED_WORDS = re.compile(
    r"\b(type|typing|typing_extensions|enum|Enum|IntEnum|StrEnum|Flag|IntFlag|Generic|Protocol|ABC|ABCMeta|namedtuple|"
    r"NamedTuple|TypedDict|TYPE_CHECKING|abstractmethod)\b|dataclass|overload|contextmanager")
KEYWORDS = {"sorted": {"key", "reverse"}, "min": {"key", "default"}, "max": {"key", "default"}, "sum": {"start"},
            "enumerate": {"start"}, "zip": {"strict"}}
STATEMENTS = (ast.Assign, ast.AugAssign, ast.If, ast.While, ast.For, ast.Return, ast.Break, ast.Continue, ast.Pass,
              ast.Raise, ast.Try, ast.Expr, ast.FunctionDef, ast.ClassDef, ast.ImportFrom)
EXPRESSIONS = (ast.Constant, ast.Name, ast.List, ast.Tuple, ast.Dict, ast.Set, ast.BinOp, ast.UnaryOp, ast.BoolOp,
               ast.Compare, ast.IfExp, ast.Call, ast.Attribute, ast.Subscript, ast.Slice, ast.ListComp, ast.JoinedStr,
               ast.FormattedValue, ast.Lambda)
PYTHONS_OWN = set()
for own in (int, str, bool, list, tuple, dict, set, frozenset, bytes):
    PYTHONS_OWN.update(name for name in dir(own) if not name.startswith("__"))


def tree_of(path):
    return ast.parse(path.read_text(encoding="utf-8"))


def nodes(kind):
    """All nodes of a kind, each with its file's name."""
    return [(path.name, node) for path in FILES for node in ast.walk(tree_of(path)) if isinstance(node, kind)]


def bound_names(tree):
    """The names that a file's defs, parameters and assignments bind."""
    names = []
    for node in ast.walk(tree):
        if isinstance(node, (ast.FunctionDef, ast.ClassDef)):
            names.append(node.name)
        if isinstance(node, ast.arg):
            names.append(node.arg)
        if isinstance(node, ast.Name) and isinstance(node.ctx, ast.Store):
            names.append(node.id)
    return names


def is_plain(node):
    """Whether a node is a plain value that may stand at a file's top."""
    if isinstance(node, ast.UnaryOp):
        return isinstance(node.op, ast.USub) and isinstance(node.operand, ast.Constant)
    if isinstance(node, ast.Tuple):
        return all(is_plain(part) for part in node.elts)
    return isinstance(node, ast.Constant)


class Files(unittest.TestCase):
    def test_names(self):
        self.assertIn("words.py", [path.name for path in FILES])
        for path in FILES:
            self.assertEqual(path.parent, PACKAGE)
            self.assertRegex(path.name, r"\A([a-z][a-z0-9_]*|__init__)\.py\Z")
            self.assertFalse(path.name.startswith("test"))
            self.assertNotIn(path.stem, UNUSED | set(dir(builtins)) | {"site", "conftest", "sitecustomize", "usercustomize"})

    def test_size_and_signs(self):
        for path in FILES:
            text = path.read_bytes().decode("ascii")
            self.assertRegex(text, r"\A[\n -~]*\n\Z")
            self.assertLess(text.count("\n"), 400)
            for row in text.split("\n"):
                self.assertLessEqual(len(row), 120, path.name)
            self.assertIsNone(BANNED_WORDS.search(text), path.name)

    def test_functions_are_short(self):
        for name, node in nodes(ast.FunctionDef):
            self.assertLessEqual(node.end_lineno - node.lineno + 1, 40, (name, node.name))

    def test_docstrings(self):
        for path in FILES:
            self.assertTrue(ast.get_docstring(tree_of(path)), path.name)


class Imports(unittest.TestCase):
    def test_only_from_the_file_that_defines_the_name(self):
        for name, node in nodes(ast.ImportFrom):
            self.assertEqual(node.level, 0)
            self.assertRegex(node.module, r"\Asoundlex\.[a-z0-9_]+\Z")
            tree = tree_of(PACKAGE / (node.module.split(".")[1] + ".py"))
            defined = [part.name for part in tree.body if isinstance(part, (ast.FunctionDef, ast.ClassDef))]
            for part in tree.body:
                if isinstance(part, ast.Assign):
                    defined.append(part.targets[0].id)
            for alias in node.names:
                self.assertIn(alias.name, defined, name)
                self.assertIsNone(alias.asname)

    def test_no_circle(self):
        drawn = {}
        for name, node in nodes(ast.ImportFrom):
            drawn.setdefault(name[:-3], set()).add(node.module.split(".")[1])
        for name in drawn:
            reached = set()
            left = {name}
            while left:
                left = set().union(*[drawn.get(part, set()) for part in left]) - reached
                reached |= left
            self.assertNotIn(name, reached)

    def test_init_holds_a_docstring_alone(self):
        self.assertEqual(len(tree_of(PACKAGE / "__init__.py").body), 1)

    def test_the_interface(self):
        found = [(name, node) for name, node in nodes(ast.FunctionDef) if node.name == "answers"]
        self.assertEqual([name for name, _ in found], ["words.py"])
        self.assertEqual([part.arg for part in found[0][1].args.args], ["calls"])
        self.assertEqual(found[0][1].args.defaults, [])


class Forms(unittest.TestCase):
    def test_the_top_of_a_file(self):
        for path in FILES:
            names = []
            for part in tree_of(path).body[1:]:
                self.assertIsInstance(part, (ast.ImportFrom, ast.FunctionDef, ast.ClassDef, ast.Assign), path.name)
                if isinstance(part, ast.Assign):
                    self.assertTrue(is_plain(part.value), path.name)
                    names.append(part.targets[0].id)
                elif not isinstance(part, ast.ImportFrom):
                    names.append(part.name)
                else:
                    names.extend(alias.name for alias in part.names)
            self.assertEqual(len(names), len(set(names)), path.name)

    def test_statements_and_expressions(self):
        for name, node in nodes(ast.stmt):
            self.assertIsInstance(node, STATEMENTS, name)
        for name, node in nodes(ast.expr):
            self.assertIsInstance(node, EXPRESSIONS, name)
        for name, node in nodes((ast.For, ast.While)):
            self.assertEqual(node.orelse, [], name)
        for name, node in nodes(ast.Assign):
            self.assertEqual(len(node.targets), 1, name)
        for name, node in nodes(ast.Expr):
            self.assertIsInstance(node.value, (ast.Call, ast.Constant), name)

    def test_values(self):
        for name, node in nodes(ast.Constant):
            self.assertIsInstance(node.value, (int, str, type(None)), name)
            if isinstance(node.value, str):
                self.assertNotIn("%", node.value, name)
        for name, node in nodes(ast.BinOp):
            self.assertNotIsInstance(node.op, (ast.Div, ast.MatMult), name)
        for name, node in nodes(ast.ListComp):
            self.assertEqual(len(node.generators), 1, name)
            self.assertLessEqual(len(node.generators[0].ifs), 1, name)
        for name, node in nodes(ast.FormattedValue):
            self.assertIsInstance(node.value, ast.Name, name)
        for name, node in nodes(ast.Compare):
            if any(isinstance(part, (ast.Is, ast.IsNot)) for part in node.ops):
                self.assertTrue(all(isinstance(part, ast.Constant) for part in node.comparators), name)

    def test_functions(self):
        for name, node in nodes((ast.FunctionDef, ast.Lambda)):
            given = node.args
            self.assertEqual((given.vararg, given.kwarg, given.kwonlyargs, given.posonlyargs), (None, None, [], []), name)
            self.assertTrue(all(isinstance(part, ast.Constant) for part in given.defaults), name)
            self.assertTrue(all(part.annotation is None for part in given.args), name)
        for name, node in nodes(ast.FunctionDef):
            self.assertEqual((node.decorator_list, node.returns), ([], None), name)

    def test_classes(self):
        methods, values = set(), set()
        for name, node in nodes(ast.ClassDef):
            self.assertEqual((node.decorator_list, node.keywords), ([], []), name)
            self.assertLessEqual(len(node.bases), 1, name)
            own = [part.name for part in node.body if isinstance(part, ast.FunctionDef)]
            self.assertEqual(len(own), len(set(own)), name)
            for part in node.body:
                self.assertIsInstance(part, (ast.FunctionDef, ast.Expr), name)
            methods.update(own)
        for name, node in nodes(ast.Attribute):
            if isinstance(node.ctx, ast.Store):
                values.add(node.attr)
        methods -= {"__init__"}
        self.assertEqual(methods & values, set())
        self.assertEqual(methods & (PYTHONS_OWN - OWN_METHODS_TOO), set())
        self.assertEqual(values & (PYTHONS_OWN - VALUES_TOO), set())
        for name, node in nodes(ast.Attribute):
            self.assertIn(node.attr, methods | values | METHODS, name)

    def test_names(self):
        for path in FILES:
            tree = tree_of(path)
            bound = bound_names(tree)
            imports = {alias.name for node in ast.walk(tree) if isinstance(node, ast.ImportFrom) for alias in node.names}
            classes = {node.name for node in ast.walk(tree) if isinstance(node, ast.ClassDef)}
            for name in bound:
                if name == "__init__":
                    continue
                self.assertRegex(name, r"\A[A-Za-z][A-Za-z0-9_]*\Z", path.name)
                self.assertFalse(keyword.issoftkeyword(name), (path.name, name))
                self.assertNotIn(name, set(dir(builtins)) | UNUSED | imports, path.name)
            for name in classes:
                self.assertEqual(bound.count(name), 1, (path.name, name))
            known = set(bound) | imports | ALLOWED_NAMES
            for node in ast.walk(tree):
                if isinstance(node, ast.Name):
                    self.assertIn(node.id, known, path.name)

    def test_defs_only_read_what_stands_at_the_top(self):
        for path in FILES:
            tree = tree_of(path)
            top = {part.targets[0].id for part in tree.body if isinstance(part, ast.Assign)}
            for part in tree.body:
                if isinstance(part, (ast.FunctionDef, ast.ClassDef)):
                    self.assertEqual(top & set(bound_names(part)), set(), path.name)

    def test_keywords(self):
        for name, node in nodes(ast.Call):
            given = {part.arg for part in node.keywords}
            if given:
                self.assertIsInstance(node.func, ast.Name, name)
                self.assertLessEqual(given, KEYWORDS.get(node.func.id, set()), name)
            for part in node.keywords:
                if part.arg == "key":
                    self.assertIsInstance(part.value, (ast.Name, ast.Lambda), name)

    def test_lambdas(self):
        placed = [(name, node.lineno, ast.dump(node.args)) for name, node in nodes(ast.Lambda)]
        self.assertEqual(len(placed), len(set(placed)))

    def test_walked_at_once(self):
        for path in FILES:
            tree = tree_of(path)
            walked = {id(node.iter) for node in ast.walk(tree) if isinstance(node, (ast.For, ast.comprehension))}
            for node in ast.walk(tree):
                if isinstance(node, ast.Call) and isinstance(node.func, ast.Name):
                    if node.func.id in ("zip", "enumerate", "reversed", "range"):
                        self.assertIn(id(node), walked, path.name)


if __name__ == "__main__":
    unittest.main()
