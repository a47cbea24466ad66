"""Holds the package's files to the rules of the language part that can be read off a file.

Point [1] of the document, that no clock, chance or file is used, is held by this too: nothing
from outside the package can be imported, and no built-in name but those listed is read.
"""

import ast
import builtins
import pathlib
import re
import unittest

PACKAGE = pathlib.Path(__file__).resolve().parent.parent / "firstword"

OWN_NAMES = set(
    "len range enumerate zip min max sum abs sorted reversed int str bool list tuple dict set frozenset isinstance "
    "ord repr any all divmod Exception ValueError TypeError KeyError IndexError LookupError ZeroDivisionError "
    "ArithmeticError OverflowError RuntimeError NotImplementedError AttributeError StopIteration".split()
)
TWO_UNDERSCORES = {"__init__", "__eq__", "__repr__", "__str__", "__len__", "__all__", "__version__"}
METHODS = set(
    "append clear copy count endswith extend find get index insert isalnum isalpha isdigit islower isspace isupper "
    "items join keys ljust lower lstrip partition pop remove replace reverse rfind rjust rpartition rsplit rstrip "
    "setdefault split splitlines startswith strip update upper values zfill bit_length".split()
)
WORDS_NOWHERE = re.compile(
    r"\b(type|typing|typing_extensions|enum|Enum|IntEnum|StrEnum|Flag|IntFlag|Generic|Protocol|ABC|ABCMeta|namedtuple"
    r"|NamedTuple|TypedDict|TYPE_CHECKING|abstractmethod)\b|dataclass|overload|contextmanager"
)
NODES = set(
    "Module Expr FunctionDef ClassDef Return Assign AugAssign For While If Raise Try ImportFrom Pass Break Continue "
    "BoolOp BinOp UnaryOp Lambda IfExp Dict ListComp Compare Call JoinedStr FormattedValue Constant Attribute "
    "Subscript Name List Tuple Slice Load Store And Or Add Sub Mult FloorDiv Mod Pow LShift RShift BitOr BitXor BitAnd "
    "Invert Not UAdd USub Eq NotEq Lt LtE Gt GtE Is IsNot In NotIn comprehension ExceptHandler arguments arg keyword "
    "alias".split()
)


def package_files():
    return sorted(path for path in PACKAGE.rglob("*") if path.is_file() and path.suffix != ".pyc")


def each_file():
    for path in package_files():
        text = path.read_text(encoding="utf-8")
        yield path, text, ast.parse(text)


def names_bound(tree):
    bound = set()
    for node in ast.walk(tree):
        if isinstance(node, ast.Name) and isinstance(node.ctx, ast.Store):
            bound.add(node.id)
        elif isinstance(node, (ast.FunctionDef, ast.ClassDef)):
            bound.add(node.name)
        elif isinstance(node, ast.arg):
            bound.add(node.arg)
        elif isinstance(node, ast.alias):
            bound.add(node.asname or node.name)
        elif isinstance(node, ast.ExceptHandler) and node.name:
            bound.add(node.name)
    return bound


def names_of_top(tree):
    names = []
    for node in tree.body:
        if isinstance(node, (ast.FunctionDef, ast.ClassDef)):
            names.append(node.name)
        elif isinstance(node, ast.Assign):
            names.append(node.targets[0].id)
        elif isinstance(node, ast.ImportFrom):
            names.extend(alias.name for alias in node.names)
    return names


def imported_names(tree):
    return {alias.name for node in tree.body if isinstance(node, ast.ImportFrom) for alias in node.names}


def names_within_functions(tree):
    names = set()
    for node in ast.walk(tree):
        if isinstance(node, ast.FunctionDef):
            names |= names_bound(node) - {node.name}
    return names


def parents_of(tree):
    return {child: node for node in ast.walk(tree) for child in ast.iter_child_nodes(node)}


def called_name(node):
    if isinstance(node, ast.Call) and isinstance(node.func, ast.Name):
        return node.func.id
    if isinstance(node, ast.Call) and isinstance(node.func, ast.Attribute):
        return "." + node.func.attr
    return None


class TestLanguage(unittest.TestCase):
    def test_the_package_is_there_with_python_files_alone(self):
        names = [path.name for path in package_files()]
        for name in ("__init__.py", "answers.py", "counting.py", "errors.py", "waiting.py", "words.py"):
            self.assertIn(name, names)
        for name in names:
            self.assertRegex(name, r"^([a-z][a-z0-9_]*|__init__|__main__)\.py$")
            self.assertNotRegex(name, r"^(test.*|site|conftest|sitecustomize|usercustomize)\.py$")

    def test_signs_and_sizes(self):
        for path, text, tree in each_file():
            self.assertRegex(text, r"\A[ -~\n]*\Z", path)
            self.assertLessEqual(len(text.splitlines()), 400, path)
            for line in text.splitlines():
                self.assertLessEqual(len(line), 120, (path, line))
            for node in ast.walk(tree):
                if isinstance(node, ast.FunctionDef):
                    self.assertLessEqual(node.end_lineno - node.lineno + 1, 40, (path, node.name))

    def test_words_that_stand_nowhere(self):
        for path, text, _ in each_file():
            self.assertIsNone(WORDS_NOWHERE.search(text), path)

    def test_imports_are_from_the_package_at_the_top(self):
        for path, _, tree in each_file():
            at_top = [node for node in tree.body if isinstance(node, ast.ImportFrom)]
            anywhere = [node for node in ast.walk(tree) if isinstance(node, (ast.Import, ast.ImportFrom))]
            self.assertEqual(at_top, anywhere, path)
            for node in at_top:
                self.assertEqual(node.level, 0, path)
                self.assertRegex(node.module, r"^firstword\.[a-z0-9_.]+$", path)
                self.assertNotIn("*", [alias.name for alias in node.names], path)

    def test_kinds_of_statements_and_values(self):
        for path, _, tree in each_file():
            for node in ast.walk(tree):
                where = (path.name, getattr(node, "lineno", 0))
                self.assertIn(type(node).__name__, NODES, where)
                if isinstance(node, ast.Constant):
                    self.assertIn(type(node.value), (int, str, bool, type(None)), where)
                if isinstance(node, (ast.FunctionDef, ast.ClassDef)):
                    self.assertEqual(node.decorator_list, [], where)
                if isinstance(node, ast.arguments):
                    self.assertEqual((node.vararg, node.kwarg, node.kwonlyargs, node.posonlyargs), (None, None, [], []))
                if isinstance(node, (ast.For, ast.While)):
                    self.assertEqual(node.orelse, [], where)
                if isinstance(node, ast.Assign):
                    self.assertEqual(len(node.targets), 1, where)

    def test_names(self):
        python_names = set(dir(builtins))
        for path, _, tree in each_file():
            bound = names_bound(tree)
            self.assertEqual(bound & python_names, set(), path)
            for name in bound - TWO_UNDERSCORES:
                self.assertRegex(name, r"^[A-Za-z][A-Za-z0-9_]*$", path)
            for node in ast.walk(tree):
                if isinstance(node, ast.Name) and isinstance(node.ctx, ast.Load):
                    self.assertIn(node.id, bound | OWN_NAMES, (path, node.lineno))

    def test_methods(self):
        own = set()
        for _, _, tree in each_file():
            for node in ast.walk(tree):
                if isinstance(node, ast.ClassDef):
                    own |= {part.name for part in node.body if isinstance(part, ast.FunctionDef)}
        for path, _, tree in each_file():
            for node in ast.walk(tree):
                if isinstance(node, ast.Call) and isinstance(node.func, ast.Attribute):
                    self.assertIn(node.func.attr, METHODS | own, (path, node.lineno))

    def test_what_is_walked_is_walked_on_the_spot(self):
        walks = ("zip", "enumerate", "reversed", "range", ".items", ".keys", ".values")
        takers = ("list", "tuple", "dict", "sorted", "sum", "any", "all", "enumerate", "zip", "min", "max", ".join")
        for path, _, tree in each_file():
            parents = parents_of(tree)
            for node in ast.walk(tree):
                if called_name(node) in walks:
                    parent = parents[node]
                    walked = isinstance(parent, (ast.For, ast.comprehension)) and parent.iter is node
                    taken = called_name(parent) in takers and parent.args[0] is node
                    self.assertTrue(walked or taken, (path, node.lineno))

    def test_sets_are_not_kept(self):
        for path, _, tree in each_file():
            parents = parents_of(tree)
            for node in ast.walk(tree):
                if called_name(node) in ("set", "frozenset"):
                    parent = parents[node]
                    self.assertTrue(
                        called_name(parent) in ("sorted", "len") or isinstance(parent, (ast.Compare, ast.BinOp)),
                        (path, node.lineno),
                    )

    def test_is_and_powers_and_texts(self):
        for path, _, tree in each_file():
            for node in ast.walk(tree):
                where = (path, getattr(node, "lineno", 0))
                if isinstance(node, ast.Compare) and isinstance(node.ops[0], (ast.Is, ast.IsNot)):
                    self.assertIn(getattr(node.comparators[0], "value", ""), (None, True, False), where)
                if isinstance(node, ast.BinOp) and isinstance(node.op, ast.Pow):
                    self.assertIn(getattr(node.right, "value", None), range(65), where)
                if isinstance(node, ast.Constant) and isinstance(node.value, str):
                    self.assertNotIn("%", node.value, where)

    def test_each_name_once_at_the_top_and_not_called_like_an_import_or_a_class(self):
        for path, _, tree in each_file():
            top = names_of_top(tree)
            self.assertEqual(len(top), len(set(top)), path)
            classes = {node.name for node in tree.body if isinstance(node, ast.ClassDef)}
            self.assertEqual(names_within_functions(tree) & (imported_names(tree) | classes), set(), path)

    def test_imports_are_from_the_defining_file_and_not_in_a_circle(self):
        trees = {path.stem: tree for path, _, tree in each_file()}
        drawn = {}
        for name, tree in trees.items():
            rows = [node for node in tree.body if isinstance(node, ast.ImportFrom)]
            drawn[name] = {node.module.partition(".")[2] for node in rows} | {"__init__"} - {name}
            for node in rows:
                source = trees[node.module.partition(".")[2]]
                for alias in node.names:
                    self.assertIn(alias.name, set(names_of_top(source)) - imported_names(source), name)
        while drawn:
            free = [name for name, sources in drawn.items() if not sources & set(drawn)]
            self.assertTrue(free, f"these draw from one another: {sorted(drawn)}")
            for name in free:
                drawn.pop(name)

    def test_no_name_is_a_method_and_a_value(self):
        methods, fields = set(), set()
        for _, _, tree in each_file():
            for node in ast.walk(tree):
                if isinstance(node, ast.ClassDef):
                    methods |= {part.name for part in node.body if isinstance(part, ast.FunctionDef)}
                if isinstance(node, ast.Attribute) and isinstance(node.ctx, ast.Store):
                    fields.add(node.attr)
        self.assertEqual(methods & fields, set())


if __name__ == "__main__":
    unittest.main()
