"""The rules of LANGUAGE.md that can be read off the package's files one by one."""

import ast
import builtins
import re
import unittest
from pathlib import Path

PACKAGE = Path(__file__).resolve().parent.parent / "inkmap"

STATEMENTS = (
    ast.FunctionDef, ast.ClassDef, ast.ImportFrom, ast.Assign, ast.AugAssign, ast.If, ast.While, ast.For, ast.Return,
    ast.Break, ast.Continue, ast.Pass, ast.Raise, ast.Try, ast.Expr,
)
EXPRESSIONS = (
    ast.BoolOp, ast.BinOp, ast.UnaryOp, ast.Lambda, ast.IfExp, ast.Dict, ast.Set, ast.ListComp, ast.Compare, ast.Call,
    ast.JoinedStr, ast.FormattedValue, ast.Constant, ast.Attribute, ast.Subscript, ast.Name, ast.List, ast.Tuple,
    ast.Slice,
)
OWN_NAMES = set(
    "len range enumerate zip min max sum abs sorted reversed int str bool list tuple dict set frozenset isinstance ord "
    "repr any all divmod Exception ValueError TypeError KeyError IndexError LookupError ZeroDivisionError "
    "ArithmeticError OverflowError RuntimeError NotImplementedError AttributeError StopIteration".split()
)
METHODS = set(
    "append clear copy count endswith extend find get index insert isalnum isalpha isdigit islower isspace isupper "
    "items join keys ljust lower lstrip partition pop remove replace reverse rfind rjust rpartition rsplit rstrip "
    "setdefault split splitlines startswith strip update upper values zfill bit_length".split()
)
CHANGING = {"append", "clear", "extend", "insert", "pop", "remove", "reverse", "setdefault", "update"}
NEVER = set(
    "register mro elements open input version_info with_traceback add_note format format_map attrgetter breakpoint "
    "builtins compile copyright credits delattr dir eval exec exit gc getattr globals hasattr help id importlib license "
    "locals methodcaller os quit setattr super sys type vars chr print".split()
)
KEYWORDS = {
    "sorted": {"key", "reverse"}, "min": {"key", "default"}, "max": {"key", "default"}, "sum": {"start"},
    "enumerate": {"start"}, "zip": {"strict"},
}
WALKED = {"zip", "enumerate", "reversed", "range", "items", "keys", "values"}
WALKING = {"list", "tuple", "dict", "sorted", "sum", "any", "all", "enumerate", "zip", "min", "max"}
SPECIAL = {"__init__", "__eq__", "__repr__", "__str__", "__len__"}
WORDS = (
    r"\b(type|typing|typing_extensions|enum|Enum|IntEnum|StrEnum|Flag|IntFlag|Generic|Protocol|ABC|ABCMeta|namedtuple"
    r"|NamedTuple|TypedDict|TYPE_CHECKING|abstractmethod)\b|dataclass|overload|contextmanager"
)


def files():
    return sorted(path for path in PACKAGE.rglob("*") if "__pycache__" not in path.parts and path.is_file())


def trees():
    return [(path.name, ast.parse(path.read_text(encoding="ascii"))) for path in files()]


def nodes(*kinds):
    return [(name, node) for name, tree in trees() for node in ast.walk(tree) if isinstance(node, kinds)]


def own_functions():
    return {node.name for name, node in nodes(ast.FunctionDef)}


def parents():
    """Each node of the package's files with its file and the node that it stands in."""
    return [(name, node, inner) for name, node in nodes(ast.AST) for inner in ast.iter_child_nodes(node)]


def called(node):
    """The name by which something is called, or None."""
    if not isinstance(node, ast.Call):
        return None
    return node.func.id if isinstance(node.func, ast.Name) else getattr(node.func, "attr", None)


def walked_names(node):
    """The names of what a loop walks, itself or through enumerate and its like."""
    if called(node) in WALKED:
        found = node.args + ([node.func.value] if isinstance(node.func, ast.Attribute) else [])
        return [name for inner in found for name in walked_names(inner)]
    return [ast.unparse(node)]


class Language(unittest.TestCase):
    def test_files(self):
        """L1, L10, L14, L17"""
        self.assertIn(PACKAGE / "__init__.py", files())
        for path in files():
            self.assertRegex(path.name, r"^(__init__|__main__|[a-z][a-z0-9_]*)\.py$")
            self.assertNotIn(path.stem, dir(builtins))
            text = path.read_bytes().decode("ascii")
            self.assertRegex(text, r"\A[\n -~]*\Z", path.name)
            self.assertIsNone(re.search(WORDS, text), path.name)
            self.assertLessEqual(len(text.splitlines()), 400, path.name)
            self.assertLessEqual(max(len(line) for line in text.splitlines()), 120, path.name)

    def test_only_the_allowed_statements_and_expressions(self):
        """L6, L7"""
        for name, node in nodes(ast.stmt):
            self.assertIsInstance(node, STATEMENTS, (name, node.lineno))
        for name, node in nodes(ast.expr):
            self.assertIsInstance(node, EXPRESSIONS, (name, node.lineno))
        for name, node in nodes(ast.Assign):
            self.assertEqual(len(node.targets), 1, (name, node.lineno))
        for name, node in nodes(ast.For, ast.While, ast.Try):
            self.assertEqual([] if isinstance(node, ast.Try) else node.orelse, [], (name, node.lineno))
            self.assertEqual(getattr(node, "finalbody", []), [], (name, node.lineno))
        for name, node in nodes(ast.ListComp):
            self.assertEqual(len(node.generators), 1, (name, node.lineno))
            self.assertLessEqual(len(node.generators[0].ifs), 1, (name, node.lineno))
        for name, node in nodes(ast.Constant):
            self.assertIn(type(node.value), (int, str, bool, type(None)), (name, node.lineno))
        for name, node in nodes(ast.BinOp, ast.AugAssign):
            self.assertNotIsInstance(node.op, (ast.Div, ast.MatMult, ast.Pow), (name, node.lineno))

    def test_a_call_by_itself_or_the_words_at_a_files_top(self):
        """L3, L6"""
        for name, tree in trees():
            tops = [node for node in tree.body if isinstance(node, ast.Expr)]
            self.assertEqual(tops, tree.body[:1], name)
            for node in ast.walk(tree):
                if isinstance(node, ast.Expr) and node not in tops:
                    self.assertIsInstance(node.value, ast.Call, (name, node.lineno))

    def test_imports(self):
        """L2, L16"""
        drawn = {}
        for path in files():
            tree = ast.parse(path.read_text())
            drawn[path.stem] = []
            for node in tree.body:
                if isinstance(node, ast.ImportFrom):
                    self.assertEqual(node.level, 0, path.name)
                    package, module = node.module.split(".")
                    self.assertEqual(package, "inkmap", path.name)
                    drawn[path.stem].append(module)
                    source = ast.parse((PACKAGE / (module + ".py")).read_text())
                    defined = {one.name for one in source.body if isinstance(one, (ast.FunctionDef, ast.ClassDef))}
                    for alias in node.names:
                        self.assertIn(alias.name, defined, path.name)
                        self.assertIsNone(alias.asname, path.name)
            self.assertFalse([one for one in ast.walk(tree) if isinstance(one, ast.Import)], path.name)
        self.assertEqual(drawn["__init__"], [])
        left = dict(drawn)
        while left:
            free = [stem for stem, modules in left.items() if not set(modules) & set(left)]
            self.assertTrue(free, f"files draw from one another: {sorted(left)}")
            for stem in free:
                left.pop(stem)

    def test_functions_and_classes(self):
        """L4, L5, L10, L21"""
        for name, node in nodes(ast.FunctionDef):
            given = node.args
            self.assertFalse(given.vararg or given.kwarg or given.kwonlyargs or given.posonlyargs, (name, node.name))
            self.assertFalse(node.decorator_list or node.returns, (name, node.name))
            self.assertFalse([one for one in given.args if one.annotation], (name, node.name))
            self.assertLessEqual(node.end_lineno - node.lineno + 1, 40, (name, node.name))
        for name, node in nodes(ast.ClassDef):
            self.assertFalse(node.decorator_list or node.keywords, (name, node.name))
            self.assertLessEqual(len(node.bases), 1, (name, node.name))
            for inner in node.body:
                self.assertIsInstance(inner, (ast.FunctionDef, ast.Pass), (name, node.name))

    def test_names(self):
        """L8, L12, L15, L25"""
        functions = own_functions()
        given = [(name, node.id) for name, node in nodes(ast.Name) if isinstance(node.ctx, ast.Store)]
        given += [(name, node.arg) for name, node in nodes(ast.arg)]
        given += [(name, node.name) for name, node in nodes(ast.FunctionDef, ast.ClassDef)]
        imports = [(name, alias.name) for name, node in nodes(ast.ImportFrom) for alias in node.names]
        for name, word in given:
            self.assertTrue(re.match(r"[A-Za-z][A-Za-z0-9_]*\Z", word) or word in SPECIAL, (name, word))
            self.assertNotIn(word, dir(builtins), name)
            self.assertNotIn((name, word), imports)
        for name, node in nodes(ast.Name):
            if node.id in dir(builtins):
                self.assertIn(node.id, OWN_NAMES, (name, node.lineno))
        for name, node in nodes(ast.Call):
            if isinstance(node.func, ast.Attribute):
                self.assertIn(node.func.attr, METHODS | functions, (name, node.lineno))
        for name, tree in trees():
            tops = [node.name for node in tree.body if isinstance(node, (ast.FunctionDef, ast.ClassDef))]
            self.assertEqual(len(tops), len(set(tops)), name)

    def test_is_beside_none_true_and_false_alone(self):
        """L20"""
        for name, node in nodes(ast.Compare):
            for operator, right in zip(node.ops, node.comparators):
                if isinstance(operator, (ast.Is, ast.IsNot)):
                    self.assertIn(getattr(right, "value", 0), (None, True, False), (name, node.lineno))

    def test_sets_are_not_kept(self):
        """L13, L24"""
        self.assertEqual(nodes(ast.Set, ast.SetComp), [])
        for name, node, inner in parents():
            if called(inner) in ("set", "frozenset"):
                self.assertIn(called(node), ("sorted", "len"), (name, inner.lineno))
                self.assertEqual(node.keywords, [], (name, inner.lineno))

    def test_nothing_is_kept_at_a_files_top(self):
        """L3, L15: the package needs no names there but those of defs, classes and imports."""
        for name, tree in trees():
            for node in tree.body[1:]:
                self.assertIsInstance(node, (ast.ImportFrom, ast.FunctionDef, ast.ClassDef), (name, node.lineno))

    def test_names_that_are_not_used(self):
        """L17, L27"""
        for name, node in nodes(ast.Name):
            self.assertNotIn(node.id, NEVER, (name, node.lineno))
        for name, node in nodes(ast.Attribute):
            self.assertNotIn(node.attr, NEVER, (name, node.lineno))
            self.assertFalse(re.match(r"(f|tb|co|gi|cr|ag)_", node.attr), (name, node.lineno))

    def test_classes_values_and_methods(self):
        """L18, L26, L28"""
        own = {attr for kind in (str, int, list, tuple, dict, set, bytes) for attr in dir(kind)}
        methods = {inner.name for name, node in nodes(ast.ClassDef) for inner in node.body
                   if isinstance(inner, ast.FunctionDef)}
        stored = [(name, node) for name, node in nodes(ast.Attribute) if isinstance(node.ctx, ast.Store)]
        self.assertEqual((methods - {"__init__"}) & own, set())
        for name, node in stored:
            self.assertNotIn(node.attr, own | methods, (name, node.lineno))
            self.assertEqual(ast.unparse(node.value), "self", (name, node.lineno))
        for name, node in nodes(ast.FunctionDef):
            if node.name == "__init__":
                self.assertFalse([inner for inner in ast.walk(node) if isinstance(inner, ast.Return)], name)

    def test_only_errors_of_the_programs_own_are_raised_and_taken(self):
        """L19"""
        own = {node.name for name, node in nodes(ast.ClassDef) if name == "errors.py"}
        for name, node in nodes(ast.ExceptHandler):
            self.assertIn(getattr(node.type, "id", None), own, (name, node.lineno))
        for name, node in nodes(ast.Raise):
            self.assertIn(called(node.exc), own, (name, node.lineno))

    def test_keywords(self):
        """L22"""
        for name, node in nodes(ast.Call):
            for keyword in node.keywords:
                self.assertIn(keyword.arg, KEYWORDS.get(called(node), ()), (name, node.lineno))

    def test_walked_at_once_and_not_changed_meanwhile(self):
        """L23"""
        for name, node, inner in parents():
            if called(inner) in WALKED:
                loop = isinstance(node, (ast.For, ast.comprehension)) and node.iter is inner
                first = called(node) in WALKING and inner is node.args[0]
                self.assertTrue(loop or first or called(node) in ("zip", "join"), (name, inner.lineno))
        for name, node in nodes(ast.For):
            for inner in [inner for statement in node.body for inner in ast.walk(statement)]:
                changed = None
                if called(inner) in CHANGING and isinstance(inner.func, ast.Attribute):
                    changed = ast.unparse(inner.func.value)
                if isinstance(inner, ast.Subscript) and isinstance(inner.ctx, ast.Store):
                    changed = ast.unparse(inner.value)
                self.assertNotIn(changed, walked_names(node.iter), (name, inner))

    def test_texts(self):
        """L27"""
        for name, node in nodes(ast.Constant):
            if isinstance(node.value, str):
                self.assertNotIn("%", node.value, (name, node.lineno))


if __name__ == "__main__":
    unittest.main()
