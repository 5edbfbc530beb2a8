"""What can be seen by reading the files of the package: no outside help, and the main rules of its language."""

import ast
import builtins
import pathlib
import re
import unittest

PACKAGE = pathlib.Path(__file__).resolve().parent.parent / "schemebound"
FILES = sorted(PACKAGE.glob("*.py"))
SOURCES = [(path, path.read_text(encoding="utf-8"), ast.parse(path.read_text(encoding="utf-8"))) for path in FILES]
LIBRARY = {
    "heapq": {"heappush", "heappop", "heapify", "heapreplace", "heappushpop"},
    "math": {"gcd", "lcm", "isqrt", "comb", "perm", "factorial"},
    "itertools": {"product", "combinations", "permutations", "chain", "accumulate", "pairwise", "islice", "zip_longest"},
    "collections": {"defaultdict"},
    "__future__": {"annotations"},
}
BUILTINS = set(
    "len range enumerate zip min max sum abs sorted reversed int str bool list tuple dict set frozenset isinstance ord"
    " repr any all divmod pow getattr hasattr setattr iter next map print Exception ValueError TypeError KeyError"
    " IndexError LookupError ZeroDivisionError ArithmeticError OverflowError RuntimeError NotImplementedError"
    " AttributeError StopIteration NotImplemented bytes super property staticmethod classmethod object".split())
BARRED_NODES = (
    ast.Global, ast.AsyncFunctionDef, ast.AsyncFor, ast.AsyncWith, ast.Await, ast.Div, ast.MatMult,
)
BARRED_WORDS = re.compile(
    r"\b(type|typing|typing_extensions|enum|Enum|IntEnum|StrEnum|Flag|IntFlag|Generic|Protocol|ABC|ABCMeta|namedtuple"
    r"|NamedTuple|TypedDict|TYPE_CHECKING|abstractmethod|_wall|_WallAttr)\b|dataclass|overload|contextmanager")


def names_of_arguments(function):
    """The names of all parameters of a function or lambda."""
    told = function.args
    return [one.arg for one in told.posonlyargs + told.args + told.kwonlyargs + [told.vararg, told.kwarg] if one]


def bound_names(tree):
    """All names that a file binds."""
    for node in ast.walk(tree):
        if isinstance(node, ast.Name) and isinstance(node.ctx, ast.Store):
            yield node.id
        elif isinstance(node, (ast.FunctionDef, ast.ClassDef)):
            yield node.name
        elif isinstance(node, ast.ExceptHandler) and node.name:
            yield node.name
        if isinstance(node, (ast.FunctionDef, ast.Lambda)):
            yield from names_of_arguments(node)


def imports_of(tree):
    """All imports of a file."""
    return [node for node in tree.body if isinstance(node, ast.ImportFrom)]


def defined_names(tree):
    """The names that a file itself defines at its module level."""
    names = {node.name for node in tree.body if isinstance(node, (ast.FunctionDef, ast.ClassDef))}
    return names | {node.targets[0].id for node in tree.body if isinstance(node, ast.Assign)}


class Language(unittest.TestCase):
    def test_files(self):
        self.assertIn("schemes.py", [path.name for path in FILES])
        for path in PACKAGE.iterdir():
            if path.name != "__pycache__":
                self.assertRegex(path.name, r"\A[a-z_0-9]+\.py\Z")

    def test_sizes_and_characters(self):
        for path, text, tree in SOURCES:
            lines = text.split("\n")
            with self.subTest(path.name):
                self.assertLessEqual(len(lines) - 1, 399)
                self.assertLessEqual(max(map(len, lines)), 120)
                self.assertTrue(all(char == "\n" or " " <= char <= "~" for char in text))
                for node in ast.walk(tree):
                    if isinstance(node, ast.FunctionDef):
                        self.assertLessEqual(node.end_lineno - node.lineno + 1, 40, node.name)

    def test_imports_stand_at_the_top(self):
        for path, _, tree in SOURCES:
            with self.subTest(path.name):
                imports = [node for node in ast.walk(tree) if isinstance(node, (ast.Import, ast.ImportFrom))]
                told = bool(tree.body) and isinstance(tree.body[0], ast.Expr)
                self.assertEqual(tree.body[told:told + len(imports)], imports)
                self.assertEqual({node.__class__ for node in imports} - {ast.ImportFrom}, set())

    def test_imports_name_the_defining_file(self):
        defined = {"schemebound." + path.stem: defined_names(tree) for path, _, tree in SOURCES}
        for path, _, tree in SOURCES:
            for node in imports_of(tree):
                with self.subTest(path.name, module=node.module):
                    self.assertEqual(node.level, 0)
                    names = {alias.name for alias in node.names}
                    self.assertLessEqual(names, LIBRARY.get(node.module) or defined[node.module])
                    self.assertFalse([alias for alias in node.names if alias.asname and node.module in LIBRARY])

    def test_no_cycle_of_imports(self):
        imported = {"schemebound." + path.stem: {node.module for node in imports_of(tree)} for path, _, tree in SOURCES}
        while imported:
            free = [name for name, others in imported.items() if not others & set(imported)]
            self.assertTrue(free, imported)
            for name in free:
                del imported[name]

    def test_module_level(self):
        for path, _, tree in SOURCES:
            for node in tree.body:
                with self.subTest(path.name, line=node.lineno):
                    if isinstance(node, ast.Expr):
                        self.assertIs(node, tree.body[0])
                        self.assertIsInstance(node.value, ast.Constant)
                    elif isinstance(node, ast.Assign):
                        self.assertEqual([ast.Name], [item.__class__ for item in node.targets])
                        inner = [one for one in ast.walk(node.value) if isinstance(one, (ast.Call, ast.Lambda))]
                        self.assertFalse(inner)
                    else:
                        self.assertIsInstance(node, (ast.ImportFrom, ast.FunctionDef, ast.ClassDef))

    def test_names(self):
        barred = {"register", "mro", "elements", "open", "input", "law", "version_info"} | set(dir(builtins))
        for path, _, tree in SOURCES:
            with self.subTest(path.name):
                bound = set(bound_names(tree))
                imported = {alias.asname or alias.name for node in imports_of(tree) for alias in node.names}
                used = {node.id for node in ast.walk(tree) if isinstance(node, ast.Name)}
                self.assertFalse(bound & imported)
                self.assertFalse((bound | imported) & barred)
                self.assertLessEqual(used, bound | imported | BUILTINS)

    def test_statements_and_values(self):
        for path, _, tree in SOURCES:
            for node in ast.walk(tree):
                with self.subTest(path.name, node=ast.dump(node)[:200]):
                    self.assertNotIsInstance(node, BARRED_NODES)
                    if isinstance(node, ast.ExceptHandler):
                        self.assertIsNotNone(node.type)
                    if isinstance(node, ast.Constant):
                        self.assertNotIsInstance(node.value, (float, complex))
                        self.assertNotIn("%", str(node.value))

    def test_exponents_and_stars(self):
        for path, _, tree in SOURCES:
            for node in ast.walk(tree):
                with self.subTest(path.name, node=ast.dump(node)[:200]):
                    if isinstance(node, ast.BinOp) and isinstance(node.op, ast.Pow):
                        self.assertIsInstance(node.right, ast.Constant)
                        self.assertTrue(0 <= node.right.value <= 64)
                    if isinstance(node, ast.Call):
                        for one in node.args:
                            if isinstance(one, ast.Starred):
                                self.assertIsInstance(one.value, ast.Name)

    def test_library_names_are_only_called(self):
        for path, _, tree in SOURCES:
            taken = {alias.name for node in imports_of(tree) if node.module in LIBRARY for alias in node.names}
            called = [node.func for node in ast.walk(tree) if isinstance(node, ast.Call)]
            read = [node for node in ast.walk(tree) if isinstance(node, ast.Name) and node.id in taken]
            with self.subTest(path.name):
                self.assertEqual([node.id for node in read if node not in called], [])
                for node in ast.walk(tree):
                    if isinstance(node, ast.Call) and node.func in read:
                        self.assertEqual(node.keywords, [])

    def test_handlers_name_errors_of_the_package(self):
        own = {node.name for path, _, tree in SOURCES if path.stem == "errors" for node in tree.body
               if isinstance(node, ast.ClassDef)}
        for path, _, tree in SOURCES:
            for function in [node for node in ast.walk(tree) if isinstance(node, ast.FunctionDef)]:
                handlers = [node for node in ast.walk(function) if isinstance(node, ast.ExceptHandler)]
                with self.subTest(path.name, function=function.name):
                    self.assertLessEqual({node.type.id for node in handlers}, own)
                    named = [node.name for node in handlers if node.name]
                    self.assertEqual(len(named), len(set(named)))
                    stored = {node.id for node in ast.walk(function)
                              if isinstance(node, ast.Name) and isinstance(node.ctx, ast.Store)}
                    self.assertFalse(set(named) & (stored | set(names_of_arguments(function))))

    def test_methods_are_called_where_they_stand(self):
        methods = {item.name for _, _, tree in SOURCES for node in tree.body if isinstance(node, ast.ClassDef)
                   for item in node.body if isinstance(item, ast.FunctionDef)}
        for path, _, tree in SOURCES:
            called = [node.func for node in ast.walk(tree) if isinstance(node, ast.Call)]
            for node in ast.walk(tree):
                if isinstance(node, ast.Attribute) and node.attr in methods:
                    with self.subTest(path.name, name=node.attr):
                        self.assertIn(node, called)

    def test_barred_words(self):
        for path, text, _ in SOURCES:
            code = re.sub(r"#[^\n]*", "", re.sub(r'"""(.|\n)*?"""', "", text))
            with self.subTest(path.name):
                self.assertIsNone(BARRED_WORDS.search(code))


if __name__ == "__main__":
    unittest.main()
