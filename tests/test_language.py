"""The subset of Python that the files of the package keep to, as far as a test can see it."""

import ast
import builtins
import importlib
import pathlib
import re
import unittest

PACKAGE = pathlib.Path(__file__).resolve().parent.parent / "roundticks"
LIBRARY = {
    "heapq": {"heappush", "heappop", "heapify", "heapreplace", "heappushpop"},
    "math": {"gcd", "lcm", "isqrt", "comb", "perm", "factorial"},
    "itertools": {"product", "combinations", "permutations", "chain", "accumulate", "pairwise", "islice", "zip_longest"},
    "collections": {"defaultdict", "deque"},
    "__future__": {"annotations"},
}
BUILTINS = set("""
    len range enumerate zip min max sum abs sorted reversed int str bool list tuple dict set isinstance ord repr any all
    divmod pow getattr hasattr setattr iter next map type super property staticmethod classmethod frozenset
    AttributeError Exception ValueError TypeError KeyError IndexError LookupError ZeroDivisionError ArithmeticError OverflowError
    RuntimeError NotImplementedError StopIteration NotImplemented object bytes
""".split())
METHODS = set("""
    append clear copy count endswith extend find get index insert isalnum isalpha isdigit islower isspace isupper items
    join keys ljust lower lstrip partition pop remove replace reverse rfind rjust rpartition rsplit rstrip setdefault
    split splitlines startswith strip update upper values zfill bit_length title capitalize swapcase casefold center
    expandtabs removeprefix removesuffix rindex isascii isdecimal isnumeric istitle isidentifier isprintable translate
    add discard sort appendleft popleft extendleft rotate format from_iterable maketrans encode decode hex from_bytes
""".split())
DUNDERS = set("""
    init eq repr str len enter exit call iter lt le gt ge ne add sub mul floordiv mod pow and or xor lshift rshift
    radd rsub rmul rfloordiv rmod rand ror rxor rlshift rrshift iadd isub imul ifloordiv imod ipow iand ior ixor
    ilshift irshift neg pos invert abs bool contains getitem setitem slots class name
""".split())
BARRED_NAMES = set("""
    register mro elements open input law version_info with_traceback add_note
""".split())
BARRED_VARIABLES = set("""
    attrgetter breakpoint builtins compile copyright credits delattr dir eval exec exit gc globals help id importlib
    license locals methodcaller os quit vars _cold _tuplegetter _outside _record _written_out _member_names
""".split())
BARRED_WORDS = set("""
    typing typing_extensions enum Enum IntEnum StrEnum Flag IntFlag Generic Protocol ABC ABCMeta namedtuple NamedTuple
    TypedDict TYPE_CHECKING abstractmethod
""".split())
BARRED_NODES = (ast.AsyncFunctionDef, ast.AsyncFor, ast.AsyncWith, ast.Await)
FILES = sorted(PACKAGE.glob("*.py"))
TREES = {path.stem: ast.parse(path.read_text(encoding="utf-8")) for path in FILES if path.stem != "__main__"}


def nodes_of(*kinds):
    """All nodes of some kinds, each with the place where it stands."""
    for file, tree in TREES.items():
        for node in ast.walk(tree):
            if isinstance(node, kinds):
                yield node, f"{file}, line {getattr(node, 'lineno', 0)}"


def own_names():
    """The names of all functions, methods and attributes of the package."""
    names = {node.name for node, _ in nodes_of(ast.FunctionDef)}
    return names | {node.attr for node, _ in nodes_of(ast.Attribute) if isinstance(node.ctx, ast.Store)}


def docstrings():
    """The nodes of all docstrings."""
    found = set()
    for node, _ in nodes_of(ast.Module, ast.ClassDef, ast.FunctionDef):
        if node.body and isinstance(node.body[0], ast.Expr):
            found.add(node.body[0].value)
    return found


class Files(unittest.TestCase):
    def test_the_folder_holds_only_plain_files(self):
        for path in PACKAGE.iterdir():
            if path.name != "__pycache__":
                self.assertTrue(path.is_file(), path)
                self.assertRegex(path.name, r"^([a-z][a-z0-9_]*|__init__|__main__)\.py$")
        self.assertIn(PACKAGE / "__init__.py", FILES)
        self.assertLessEqual(len(FILES), 100)

    def test_characters_lines_and_sizes(self):
        for path in FILES:
            text = path.read_text(encoding="utf-8")
            self.assertRegex(text, "^[ -~\n]*$", path.name)
            lines = text.split("\n")
            self.assertLessEqual(len(lines) - 1, 399, path.name)
            self.assertLessEqual(max(len(line) for line in lines), 120, path.name)
        for node, place in nodes_of(ast.FunctionDef):
            self.assertLessEqual(node.end_lineno - node.lineno + 1, 40, place)

    def test_words_that_do_not_occur(self):
        for path in FILES:
            text = path.read_text(encoding="utf-8")
            self.assertIsNone(re.search("_wall|_WallAttr", text), path.name)
        skipped = docstrings()
        for node, place in nodes_of(ast.Name, ast.Attribute, ast.Constant):
            text = str(getattr(node, "id", getattr(node, "attr", getattr(node, "value", ""))))
            if node not in skipped:
                self.assertEqual(set(re.findall(r"\w+", text)) & BARRED_WORDS, set(), place)


class Modules(unittest.TestCase):
    def test_imports(self):
        for _, place in nodes_of(ast.Import):
            self.fail(place)
        for node, place in nodes_of(ast.ImportFrom):
            self.assertEqual(node.level, 0, place)
            for alias in node.names:
                self.assertIsNone(alias.asname, place)
                if node.module in LIBRARY:
                    self.assertIn(alias.name, LIBRARY[node.module], place)
                else:
                    self.assertTrue(node.module.startswith("roundticks."), place)
                    self.assertIn(alias.name, self.bound(node.module.split(".")[1]), place)

    def bound(self, file):
        """The names that a file binds itself at module level."""
        found = set()
        for node in TREES[file].body:
            if isinstance(node, (ast.FunctionDef, ast.ClassDef)):
                found.add(node.name)
            if isinstance(node, ast.Assign):
                found |= {target.id for target in node.targets}
        return found

    def test_no_two_files_import_from_each_other(self):
        used = {file: {node.module.split(".")[1] for node in tree.body
                       if isinstance(node, ast.ImportFrom) and node.module.startswith("roundticks.")}
                for file, tree in TREES.items()}
        left = dict(used)
        while left:
            free = [file for file in left if not used[file] & set(left)]
            self.assertNotEqual(free, [], left)
            for file in free:
                del left[file]

    def test_module_level(self):
        for file, tree in TREES.items():
            names = []
            for k, node in enumerate(tree.body):
                kinds = (ast.ImportFrom, ast.FunctionDef, ast.ClassDef, ast.Assign, ast.AnnAssign)
                is_docstring = k == 0 and isinstance(node, ast.Expr) and isinstance(node.value, ast.Constant)
                self.assertTrue(is_docstring or isinstance(node, kinds), (file, node.lineno))
                if isinstance(node, ast.ImportFrom):
                    names += [alias.name for alias in node.names]
                if isinstance(node, (ast.FunctionDef, ast.ClassDef)):
                    names.append(node.name)
                if isinstance(node, ast.Assign):
                    self.assertEqual(len(node.targets), 1, (file, node.lineno))
                    names.append(node.targets[0].id)
            self.assertEqual(len(set(names)), len(names), file)

    def test_all_files_can_be_imported(self):
        for file in TREES:
            if not file.startswith("__"):
                importlib.import_module("roundticks." + file)


class Code(unittest.TestCase):
    def test_statements_and_expressions(self):
        for _, place in nodes_of(*BARRED_NODES):
            self.fail(place)
        for node, place in nodes_of(ast.BinOp, ast.AugAssign):
            self.assertNotIsInstance(node.op, (ast.Div, ast.MatMult), place)
        for node, place in nodes_of(ast.Constant):
            self.assertNotIsInstance(node.value, (float, complex), place)
            self.assertIsNot(node.value, Ellipsis, place)

    def test_no_generators_and_no_sorting_in_place(self):
        for node, place in nodes_of(ast.GeneratorExp, ast.Yield, ast.YieldFrom, ast.Global, ast.Set, ast.SetComp):
            self.fail(f"{ast.unparse(node)} in {place}")
        for node, place in nodes_of(ast.Call):
            if isinstance(node.func, ast.Attribute):
                self.assertNotEqual(node.func.attr, "sort", place)

    def test_decorators(self):
        for node, place in nodes_of(ast.FunctionDef, ast.ClassDef):
            for decorator in node.decorator_list:
                self.assertIn(ast.unparse(decorator).split(".")[-1],
                              ("property", "setter", "staticmethod", "classmethod"), place)

    def test_builtins(self):
        known = set(dir(builtins))
        for node, place in nodes_of(ast.Name):
            if node.id in known:
                self.assertIsInstance(node.ctx, ast.Load, place)
                self.assertIn(node.id, BUILTINS, place)
        for node, place in nodes_of(ast.arg):
            self.assertNotIn(node.arg, known, place)
        for file, tree in TREES.items():
            for node in tree.body:
                if isinstance(node, (ast.FunctionDef, ast.ClassDef)):
                    self.assertNotIn(node.name, known, file)

    def test_methods_that_are_called(self):
        allowed = METHODS | own_names() | {"__init__"}
        for node, place in nodes_of(ast.Call):
            if isinstance(node.func, ast.Attribute):
                self.assertIn(node.func.attr, allowed, place)

    def test_names(self):
        for node, place in nodes_of(ast.Name, ast.arg, ast.FunctionDef, ast.ClassDef, ast.Attribute):
            name = getattr(node, "id", getattr(node, "arg", getattr(node, "name", getattr(node, "attr", ""))))
            self.assertNotIn(name, BARRED_NAMES, place)
            if not isinstance(node, ast.Attribute):
                self.assertNotIn(name, BARRED_VARIABLES, place)
            if name.startswith("__"):
                self.assertIn(name[2:-2], DUNDERS, place)
            else:
                self.assertRegex(name, "^_$|^_?[A-Za-z][A-Za-z0-9_]*$", place)
        for node, place in nodes_of(ast.Name):
            if node.id == "_":
                self.assertIsInstance(node.ctx, ast.Store, place)

    def test_comparisons_by_identity(self):
        for node, place in nodes_of(ast.Compare):
            for operator, side in zip(node.ops, node.comparators):
                if isinstance(operator, (ast.Is, ast.IsNot)) and not isinstance(side, ast.Name):
                    told = (ast.unparse(node.left), ast.unparse(side))
                    self.assertTrue({"None", "True", "False", "self"} & set(told), place)

    def test_raising_and_catching(self):
        for node, place in nodes_of(ast.Raise):
            self.assertTrue(node.exc is None or isinstance(node.exc, ast.Call), place)
        for node, place in nodes_of(ast.ExceptHandler):
            self.assertIsNotNone(node.type, place)
            for name in ("Exception", "TypeError", "ArithmeticError", "OverflowError", "RuntimeError",
                         "NotImplementedError", "AttributeError"):
                self.assertNotIn(name, ast.unparse(node.type), place)

    def test_parameters_and_variables_are_no_imports(self):
        for file, tree in TREES.items():
            taken = {alias.name for node in tree.body if isinstance(node, ast.ImportFrom) for alias in node.names}
            taken |= {node.name for node in tree.body if isinstance(node, ast.ClassDef)}
            for node in ast.walk(tree):
                if isinstance(node, ast.arg):
                    self.assertNotIn(node.arg, taken, (file, node.lineno))
                if isinstance(node, ast.Name) and isinstance(node.ctx, ast.Store):
                    self.assertNotIn(node.id, taken, (file, node.lineno))


if __name__ == "__main__":
    unittest.main()
