"""The form of the package's code: those of the rules L1 to L28 that a walk through its trees can tell."""

import ast
import builtins
import re
import unittest
from pathlib import Path

PACKAGE = Path(__file__).resolve().parent.parent / "loopwright"

STATEMENTS = (
    ast.Assign, ast.AugAssign, ast.AnnAssign, ast.If, ast.While, ast.For, ast.Return, ast.Break, ast.Continue, ast.Pass,
    ast.Raise, ast.Try, ast.Expr, ast.FunctionDef, ast.ClassDef, ast.ImportFrom, ast.Import,
)
EXPRESSIONS = (
    ast.Constant, ast.Name, ast.Attribute, ast.Subscript, ast.Slice, ast.Call, ast.BinOp, ast.UnaryOp, ast.BoolOp,
    ast.Compare, ast.IfExp, ast.List, ast.Tuple, ast.Dict, ast.Set, ast.ListComp, ast.Lambda, ast.JoinedStr,
    ast.FormattedValue,
)
ALLOWED_BUILTINS = set(
    "len range enumerate zip min max sum abs sorted reversed int str bool list tuple dict set frozenset isinstance ord"
    " repr any all divmod Exception ValueError TypeError KeyError IndexError LookupError ZeroDivisionError"
    " ArithmeticError OverflowError RuntimeError NotImplementedError AttributeError StopIteration".split()
)
ALLOWED_METHODS = set(
    "append clear copy count endswith extend find get index insert isalnum isalpha isdigit islower isspace isupper"
    " items join keys ljust lower lstrip partition pop remove replace reverse rfind rjust rpartition rsplit rstrip setdefault"
    " split splitlines startswith strip update upper values zfill bit_length".split()
)
WORDS_NOT_USED = re.compile(
    r"\b(type|typing|typing_extensions|enum|Enum|IntEnum|StrEnum|Flag|IntFlag|Generic|Protocol|ABC|ABCMeta|namedtuple"
    r"|NamedTuple|TypedDict|TYPE_CHECKING|abstractmethod)\b|dataclass|overload|contextmanager"
)
NAMES_NOT_USED = set(
    "register mro elements open input version_info with_traceback add_note attrgetter breakpoint builtins compile"
    " copyright credits delattr dir eval exec exit gc getattr globals hasattr help id importlib license locals"
    " methodcaller os quit setattr super type vars".split()
)
KEYWORDS = {
    "sorted": {"key", "reverse"}, "min": {"key", "default"}, "max": {"key", "default"}, "sum": {"start"},
    "enumerate": {"start"}, "zip": {"strict"},
}
WALKED_AT_ONCE = ("zip", "enumerate", "reversed", "range", "items", "keys", "values")
WALKERS = ("list", "tuple", "dict", "sorted", "sum", "any", "all", "enumerate", "zip")
METHODS_WITH_UNDERSCORES = {"__init__", "__eq__", "__repr__", "__str__", "__len__"}
PLAIN_NAME = re.compile(r"[A-Za-z][A-Za-z0-9_]*")

FILES = sorted(path for path in PACKAGE.rglob("*") if path.is_file() and "__pycache__" not in path.parts)


def tree_of(path):
    return ast.parse(path.read_text(encoding="ascii"))


def all_nodes():
    return [(f"{path.name}:{getattr(node, 'lineno', 0)}", node) for path in FILES for node in ast.walk(tree_of(path))]


def imports_of(path):
    """The package's files that one draws from, by their names without the ending."""
    nodes = [node for node in ast.walk(tree_of(path)) if isinstance(node, ast.ImportFrom)]
    return [node.module.split(".")[1] for node in nodes if node.module.startswith("loopwright.")]


def called(node):
    """The name by which a call calls, of a function or a method."""
    if isinstance(node, ast.Call):
        return node.func.id if isinstance(node.func, ast.Name) else getattr(node.func, "attr", None)
    return None


def walked_on_the_spot(node):
    """What stands in a node in a place where it is walked on the spot."""
    if isinstance(node, (ast.For, ast.comprehension)):
        return [node.iter]
    if called(node) in WALKERS or (called(node) in ("min", "max", "join") and len(node.args) == 1):
        return node.args[:1]
    return []


def bound_names(node):
    """The names that a node binds."""
    if isinstance(node, (ast.FunctionDef, ast.ClassDef)):
        return [node.name]
    if isinstance(node, ast.arg):
        return [node.arg]
    if isinstance(node, ast.Name) and isinstance(node.ctx, ast.Store):
        return [node.id]
    if isinstance(node, ast.ImportFrom):
        return [alias.asname or alias.name for alias in node.names]
    return []


class FilesTest(unittest.TestCase):
    """L1, L10, L14, L17."""

    def test_only_plain_files(self):
        self.assertTrue(FILES)
        for path in FILES:
            self.assertEqual(path.parent, PACKAGE)
            self.assertRegex(path.name, r"\A([a-z][a-z0-9_]*|__init__|__main__)\.py\Z")
            self.assertFalse(path.stem.startswith("test") or path.stem in dir(builtins), path)

    def test_signs_and_sizes(self):
        for path in FILES:
            text = path.read_text(encoding="utf-8")
            self.assertRegex(text, r"\A[ -~\n]*\Z", path)
            self.assertIsNone(WORDS_NOT_USED.search(text), path)
            rows = text.split("\n")
            self.assertLessEqual(len(rows), 401, path)
            self.assertLessEqual(max(len(row) for row in rows), 120, path)

    def test_functions_are_short(self):
        for place, node in all_nodes():
            if isinstance(node, ast.FunctionDef):
                self.assertLessEqual(node.end_lineno - node.lineno + 1, 40, place)

    def test_each_file_begins_by_telling_what_it_is_for(self):
        for path in FILES:
            self.assertTrue(ast.get_docstring(tree_of(path)), path)


class ImportsTest(unittest.TestCase):
    """L2, L16."""

    def test_from_the_very_file(self):
        tops = {path.stem: tree_of(path).body for path in FILES}
        for place, node in all_nodes():
            if isinstance(node, ast.Import):
                self.assertEqual((place.split(":")[0], [alias.name for alias in node.names]), ("__main__.py", ["sys"]))
            if isinstance(node, ast.ImportFrom) and node.module != "__future__":
                self.assertEqual(node.level, 0, place)
                self.assertRegex(node.module, r"\Aloopwright\.[a-z0-9_]+\Z", place)
                defined = [name for top in tops[node.module.split(".")[1]] for part in ast.walk(top)
                           if not isinstance(part, ast.ImportFrom) for name in bound_names(part)]
                for alias in node.names:
                    self.assertIn(alias.name, defined, place)

    def test_the_package_itself_draws_from_nothing(self):
        self.assertEqual(imports_of(PACKAGE / "__init__.py"), [])

    def test_no_two_files_draw_from_one_another(self):
        left = {path.stem: set(imports_of(path)) for path in FILES}
        while left:
            ready = [name for name in left if not left[name] & set(left)]
            self.assertTrue(ready, f"in a ring: {sorted(left)}")
            for name in ready:
                left.pop(name)


class StatementsTest(unittest.TestCase):
    """L4, L5, L6, L7, L20, L21."""

    def test_kinds_of_nodes(self):
        for place, node in all_nodes():
            if isinstance(node, ast.stmt):
                self.assertIsInstance(node, STATEMENTS, place)
            if isinstance(node, ast.expr):
                self.assertIsInstance(node, EXPRESSIONS, place)
            if isinstance(node, ast.Constant):
                self.assertIn(node.value.__class__, (int, str, bool, type(None)), place)
            if isinstance(node, ast.BinOp):
                self.assertNotIsInstance(node.op, (ast.Div, ast.MatMult), place)

    def test_functions_and_classes(self):
        for place, node in all_nodes():
            if isinstance(node, (ast.FunctionDef, ast.ClassDef)):
                self.assertEqual(node.decorator_list, [], place)
            if isinstance(node, ast.arguments):
                rest = (node.vararg, node.kwarg, node.kwonlyargs, node.posonlyargs)
                self.assertEqual(rest, (None, None, [], []), place)
            if isinstance(node, ast.ClassDef):
                self.assertLessEqual(len(node.bases) + len(node.keywords), 1, place)
                for part in node.body[1:] if ast.get_docstring(node) else node.body:
                    self.assertIsInstance(part, (ast.FunctionDef, ast.Pass), place)

    def test_narrower_forms(self):
        for place, node in all_nodes():
            if isinstance(node, ast.Assign):
                self.assertEqual(len(node.targets), 1, place)
            if isinstance(node, (ast.For, ast.While)):
                self.assertEqual(node.orelse, [], place)
            if isinstance(node, ast.Try):
                self.assertEqual(node.finalbody, [], place)
            if isinstance(node, ast.ListComp):
                self.assertEqual(len(node.generators), 1, place)
                self.assertLessEqual(len(node.generators[0].ifs), 1, place)
            if isinstance(node, ast.FormattedValue):
                self.assertIsInstance(node.value, ast.Name, place)
                self.assertIsNone(node.format_spec, place)
            if isinstance(node, ast.Compare):
                for operator, side in zip(node.ops, node.comparators):
                    if isinstance(operator, (ast.Is, ast.IsNot)):
                        self.assertIsInstance(side, ast.Constant, place)
                        self.assertIn(repr(side.value), ("None", "True", "False"), place)

    def test_the_top_of_a_file(self):
        for path in FILES:
            for node in tree_of(path).body[1:]:
                kinds = (ast.ImportFrom, ast.FunctionDef, ast.ClassDef, ast.Assign)
                if path.name == "__main__.py":
                    kinds = kinds + (ast.Import, ast.If)
                self.assertIsInstance(node, kinds, path)


class NamesTest(unittest.TestCase):
    """L8, L12, L15, L17, L25."""

    def test_names_that_are_bound(self):
        for path in FILES:
            imported = [name for node in ast.walk(tree_of(path)) if isinstance(node, ast.ImportFrom)
                        for name in bound_names(node)]
            for node in ast.walk(tree_of(path)):
                for name in bound_names(node):
                    if name not in METHODS_WITH_UNDERSCORES:
                        self.assertRegex(name, PLAIN_NAME)
                        self.assertNotIn(name, dir(builtins), path)
                        self.assertNotIn(name, NAMES_NOT_USED, path)
                    if not isinstance(node, ast.ImportFrom):
                        self.assertNotIn(name, imported, path)

    def test_names_of_a_top_are_bound_once(self):
        for path in FILES:
            names = []
            for node in tree_of(path).body:
                for part in node.targets if isinstance(node, ast.Assign) else [node]:
                    names.extend(bound_names(part))
            self.assertEqual(sorted(names), sorted(set(names)), path)

    def test_names_of_pythons_own(self):
        for place, node in all_nodes():
            if isinstance(node, ast.Name) and isinstance(node.ctx, ast.Load) and node.id in dir(builtins):
                own = ALLOWED_BUILTINS | ({"print", "__name__"} if place.startswith("__main__.py") else set())
                self.assertIn(node.id, own, place)

    def test_methods(self):
        own = {part.name for _, node in all_nodes() if isinstance(node, ast.ClassDef) for part in node.body
               if isinstance(part, ast.FunctionDef)}
        for place, node in all_nodes():
            if isinstance(node, ast.Call) and isinstance(node.func, ast.Attribute):
                self.assertIn(node.func.attr, ALLOWED_METHODS | own, place)
            if isinstance(node, ast.Attribute):
                self.assertNotIn(node.attr, NAMES_NOT_USED | {"format", "format_map"}, place)


class ClassesTest(unittest.TestCase):
    """L15, L18, L19, L24, L26, L28."""

    def test_methods_and_values_of_objects(self):
        classes = [node for _, node in all_nodes() if isinstance(node, ast.ClassDef)]
        methods = [part.name for node in classes for part in node.body if isinstance(part, ast.FunctionDef)]
        values = {node.attr for _, node in all_nodes() if isinstance(node, ast.Attribute) and isinstance(node.ctx, ast.Store)}
        pythons = {name for kind in (str, int, list, dict, set, bytes) for name in dir(kind)}
        self.assertFalse(set(methods) & values)
        self.assertFalse((set(methods) - METHODS_WITH_UNDERSCORES | values) & pythons)
        for node in classes:
            names = [part.name for part in node.body if isinstance(part, ast.FunctionDef)]
            self.assertEqual(sorted(names), sorted(set(names)), node.name)

    def test_values_are_given_to_objects_alone(self):
        for place, node in all_nodes():
            if isinstance(node, ast.Attribute) and isinstance(node.ctx, ast.Store):
                self.assertIsInstance(node.value, ast.Name, place)
                self.assertEqual(node.value.id, "self", place)
            if isinstance(node, ast.FunctionDef) and node.name == "__init__":
                self.assertFalse([part for part in ast.walk(node) if isinstance(part, ast.Return)], place)

    def test_refusals_are_taken_by_name(self):
        own = [node.name for node in tree_of(PACKAGE / "errors.py").body if isinstance(node, ast.ClassDef)]
        for place, node in all_nodes():
            if isinstance(node, ast.ExceptHandler):
                kinds = node.type.elts if isinstance(node.type, ast.Tuple) else [node.type]
                for kind in kinds:
                    self.assertIn(kind.id, own + ["KeyError", "ValueError", "IndexError"], place)
            if isinstance(node, ast.Raise):
                self.assertIn(called(node.exc), own, place)

    def test_lists_and_dicts_of_a_top(self):
        for path in FILES:
            for node in tree_of(path).body:
                if isinstance(node, ast.Assign):
                    inner = list(ast.walk(node.value))[1:]
                    self.assertFalse([part for part in inner if isinstance(part, (ast.List, ast.Dict))], path)
                    self.assertFalse([part for part in [node.value] + inner if isinstance(part, (ast.Set, ast.Call))], path)

    def test_sets_are_not_kept(self):
        nodes = [node for _, node in all_nodes()]
        beside = [part for node in nodes if isinstance(node, ast.Compare) for part in [node.left] + node.comparators]
        beside += [part for node in nodes if called(node) in ("len", "sorted") for part in node.args]
        places = [ast.dump(part, include_attributes=True) for part in beside]
        for place, node in all_nodes():
            if called(node) == "set":
                self.assertIn(ast.dump(node, include_attributes=True), places, place)
            self.assertNotIsInstance(node, ast.Set, place)


class CallsTest(unittest.TestCase):
    """L22, L23, L27."""

    def test_keywords_at_pythons_own(self):
        for place, node in all_nodes():
            if isinstance(node, ast.Call) and (called(node) in ALLOWED_BUILTINS or isinstance(node.func, ast.Attribute)):
                given = {word.arg for word in node.keywords}
                self.assertLessEqual(given, KEYWORDS.get(called(node), set()), place)

    def test_walked_at_once(self):
        walked = [part for _, node in all_nodes() for part in walked_on_the_spot(node)]
        places = [ast.dump(part, include_attributes=True) for part in walked]
        for place, node in all_nodes():
            if called(node) in WALKED_AT_ONCE:
                self.assertIn(ast.dump(node, include_attributes=True), places, place)

    def test_numbers_and_texts(self):
        for place, node in all_nodes():
            if isinstance(node, ast.Constant) and isinstance(node.value, str):
                self.assertNotIn("%", node.value, place)
            if isinstance(node, ast.BinOp) and isinstance(node.op, ast.Pow):
                self.assertIsInstance(node.right, ast.Constant, place)


if __name__ == "__main__":
    unittest.main()
