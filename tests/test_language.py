"""Checks the package against the rules of LANGUAGE.md that a short look at the code can tell."""

import ast
import builtins
import re
import unittest
from pathlib import Path

FOLDER = Path(__file__).resolve().parent.parent / "planless"
LIBRARY = {
    "heapq": {"heappush", "heappop", "heapify", "heapreplace", "heappushpop"},
    "math": {"gcd", "lcm", "isqrt", "comb", "perm", "factorial"},
    "itertools": {"product", "combinations", "permutations", "chain", "accumulate", "pairwise", "islice",
                  "zip_longest"},
    "collections": {"defaultdict"},
}
BUILTINS = set("""
    len range enumerate zip min max sum abs sorted reversed int str bool list tuple dict set isinstance ord repr
    any all divmod pow getattr hasattr setattr map iter next property staticmethod classmethod super
    Exception ValueError TypeError KeyError IndexError LookupError ZeroDivisionError ArithmeticError OverflowError
    RuntimeError NotImplementedError AttributeError StopIteration NotImplemented
""".split())
METHODS = set("""
    append clear copy count endswith extend find get index insert isalnum isalpha isdigit islower isspace isupper
    items join keys ljust lower lstrip partition pop remove replace reverse rfind rjust rpartition rsplit rstrip
    setdefault split splitlines startswith strip update upper values zfill bit_length sort add discard format
    title capitalize swapcase casefold center expandtabs removeprefix removesuffix rindex isascii isdecimal
    isnumeric istitle isidentifier isprintable from_iterable
""".split())
WORDS = re.compile(
    r"\b(?:type|typing|typing_extensions|enum|Enum|IntEnum|StrEnum|Flag|IntFlag|Generic|Protocol|ABC|ABCMeta|"
    r"namedtuple|NamedTuple|TypedDict|TYPE_CHECKING|abstractmethod)\b|dataclass|overload|contextmanager|_wall\b|"
    r"_WallAttr")
BARRED = set("""
    register mro elements open input law version_info with_traceback add_note attrgetter breakpoint builtins compile
    copyright credits delattr dir eval exec exit gc globals help id importlib license locals methodcaller os quit
    type vars
""".split())
WHOLE = {"any", "all", "min", "max", "sum", "sorted"}


def bound_names(tree):
    """Return the names of all functions, classes, parameters, variables and imports."""
    found = []
    for node in ast.walk(tree):
        if isinstance(node, (ast.FunctionDef, ast.ClassDef)):
            found.append(node.name)
        elif isinstance(node, ast.arg):
            found.append(node.arg)
        elif isinstance(node, ast.Name) and not isinstance(node.ctx, ast.Load):
            found.append(node.id)
        elif isinstance(node, ast.alias):
            found.append(node.asname or node.name)
    return found


class LanguageTest(unittest.TestCase):
    @classmethod
    def setUpClass(cls):
        cls.texts = {path.stem: path.read_text(encoding="utf-8") for path in sorted(FOLDER.glob("*.py"))}
        cls.trees = {name: ast.parse(text) for name, text in cls.texts.items()}

    def nodes(self, *kinds):
        """Return each node of these kinds, with the file and line that it stands in."""
        return [(node, f"{name}.py:{node.lineno}") for name, tree in self.trees.items()
                for node in ast.walk(tree) if isinstance(node, kinds)]

    def test_files(self):
        for path in FOLDER.rglob("*"):
            if "__pycache__" not in path.parts:
                self.assertRegex(path.name, r"\A(?:__init__|__main__|[a-z][a-z0-9_]*)\.py\Z")
        self.assertIn("__init__", self.texts)

    def test_size_and_characters(self):
        for name, text in self.texts.items():
            self.assertLessEqual(len(text.splitlines()), 399, name)
            self.assertLessEqual(max(map(len, text.splitlines())), 120, name)
            self.assertRegex(text, r"\A[\n -~]*\Z", name)
            self.assertNotIn("\\u", text, name)
        for node, place in self.nodes(ast.FunctionDef):
            self.assertLessEqual(node.end_lineno - node.lineno + 1, 40, place)

    def test_words(self):
        for name, text in self.texts.items():
            self.assertIsNone(WORDS.search(text), name)

    def test_imports(self):
        for node, place in self.nodes(ast.Import):
            self.fail(place)
        for node, place in self.nodes(ast.ImportFrom):
            self.assertEqual(node.level, 0, place)
            names = {alias.name for alias in node.names}
            if node.module in LIBRARY:
                self.assertLessEqual(names, LIBRARY[node.module], place)
                continue
            package, _, module = node.module.partition(".")
            self.assertEqual(package, "planless", place)
            defined = {part.name for part in self.trees[module].body
                       if isinstance(part, (ast.FunctionDef, ast.ClassDef))}
            defined.update(part.targets[0].id for part in self.trees[module].body if isinstance(part, ast.Assign))
            self.assertLessEqual(names, defined, place)

    def test_no_two_files_import_each_other(self):
        below = {name: {node.module.partition(".")[2] for node in ast.walk(tree)
                        if isinstance(node, ast.ImportFrom) and node.module not in LIBRARY}
                 for name, tree in self.trees.items()}
        while below:
            free = [name for name in below if not below[name] & set(below)]
            self.assertNotEqual(free, [], below)
            for name in free:
                del below[name]

    def test_module_level(self):
        kinds = (ast.ImportFrom, ast.FunctionDef, ast.ClassDef, ast.Assign)
        for name, tree in self.trees.items():
            for at, node in enumerate(tree.body):
                docstring = at == 0 and isinstance(node, ast.Expr) and isinstance(node.value, ast.Constant)
                self.assertTrue(docstring or isinstance(node, kinds), f"{name}.py:{node.lineno}")

    def test_statements_and_expressions(self):
        barred = (ast.Global, ast.AsyncFunctionDef, ast.Await, ast.AsyncFor, ast.AsyncWith)
        self.assertEqual([place for _, place in self.nodes(*barred)], [])
        for node, place in self.nodes(ast.BinOp, ast.AugAssign):
            self.assertNotIsInstance(node.op, (ast.Div, ast.MatMult), place)
        for node, place in self.nodes(ast.Subscript):
            self.assertFalse(any(isinstance(part, ast.Starred) for part in ast.walk(node.slice)), place)
        for node, place in self.nodes(ast.Constant):
            self.assertIn(node.value.__class__, (int, str, bytes, bool, type(None)), place)
            self.assertFalse(isinstance(node.value, str) and "%" in node.value, place)
        for node, place in self.nodes(ast.FunctionDef, ast.ClassDef):
            for decorator in node.decorator_list:
                self.assertIn(ast.unparse(decorator).split(".")[-1],
                              {"property", "setter", "staticmethod", "classmethod"}, place)
        for node, place in self.nodes(ast.Compare):
            for sign, right in zip(node.ops, node.comparators):
                if isinstance(sign, (ast.Is, ast.IsNot)):
                    self.assertTrue(isinstance(right, ast.Constant), place)

    def test_calls(self):
        own = {node.name for node, _ in self.nodes(ast.FunctionDef)}
        for node, place in self.nodes(ast.Call):
            if isinstance(node.func, ast.Attribute):
                self.assertTrue(node.func.attr in METHODS or node.func.attr in own, place)
            elif isinstance(node.func, ast.Name) and node.func.id in WHOLE:
                self.assertFalse(any(isinstance(part, ast.GeneratorExp) for part in node.args), place)

    def test_names(self):
        known = set(dir(builtins))
        for name, tree in self.trees.items():
            for node in ast.walk(tree):
                if isinstance(node, ast.Name) and node.id in known:
                    self.assertIn(node.id, BUILTINS, f"{name}.py:{node.lineno}")
            self.assertEqual(known.intersection(bound_names(tree)), set(), name)
            self.assertEqual(BARRED.intersection(bound_names(tree)), set(), name)

    def test_one_binding(self):
        for name, tree in self.trees.items():
            taken = [alias.asname or alias.name for node in ast.walk(tree) if isinstance(node, ast.ImportFrom)
                     for alias in node.names]
            taken += [node.name for node in tree.body if isinstance(node, ast.ClassDef)]
            bound = bound_names(tree)
            for word in taken:
                self.assertEqual(bound.count(word), 1, f"{name}: {word}")

    def test_caught_errors(self):
        for node, place in self.nodes(ast.ExceptHandler):
            self.assertIsNotNone(node.type, place)
            caught = node.type.elts if isinstance(node.type, ast.Tuple) else [node.type]
            for part in caught:
                self.assertNotIn(ast.unparse(part), {
                    "Exception", "BaseException", "TypeError", "ArithmeticError", "OverflowError", "RuntimeError",
                    "NotImplementedError", "AttributeError"}, place)


if __name__ == "__main__":
    unittest.main()
