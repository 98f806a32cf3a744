"""Those of the language's rules that can be seen in the files of the package."""

import ast
import builtins
import pathlib
import re
import unittest

FOLDER = pathlib.Path(__file__).resolve().parent.parent / "formflow"
FILES = sorted(FOLDER.rglob("*.py"))
LIBRARY = {
    "heapq": {"heappush", "heappop", "heapify", "heapreplace", "heappushpop"},
    "math": {"gcd", "lcm", "isqrt", "comb", "perm", "factorial"},
    "itertools": {"product", "combinations", "permutations", "chain", "accumulate", "pairwise", "islice", "zip_longest"},
    "collections": {"defaultdict", "deque"},
}
BUILTINS = set(
    "len range enumerate zip min max sum abs sorted reversed int str bool bytes list tuple dict set frozenset isinstance "
    "ord repr any all divmod pow getattr hasattr setattr iter next type map super print property staticmethod classmethod "
    "Exception ValueError TypeError KeyError IndexError LookupError ZeroDivisionError ArithmeticError OverflowError "
    "RuntimeError NotImplementedError AttributeError StopIteration NotImplemented".split())
METHODS = set(
    "append clear copy count endswith extend find get index insert isalnum isalpha isdigit islower isspace isupper items "
    "join keys ljust lower lstrip partition pop remove replace reverse rfind rjust rpartition rsplit rstrip setdefault "
    "split splitlines startswith strip update upper values zfill bit_length title capitalize swapcase casefold center "
    "expandtabs removeprefix removesuffix rindex isascii isdecimal isnumeric istitle isidentifier isprintable translate "
    "sort format add discard".split())
WORDS = set(
    "type typing typing_extensions enum Enum IntEnum StrEnum Flag IntFlag Generic Protocol ABC ABCMeta namedtuple "
    "NamedTuple TypedDict TYPE_CHECKING abstractmethod".split())
NAMES = set(
    "register mro elements open input law version_info with_traceback add_note attrgetter breakpoint builtins compile "
    "copyright credits delattr dir eval exec exit gc globals help id importlib license locals methodcaller os quit vars "
    "hash map round filter format object callable slice float complex".split())
STATEMENTS = (
    ast.Assign, ast.AugAssign, ast.AnnAssign, ast.If, ast.While, ast.For, ast.Return, ast.Break, ast.Continue, ast.Pass,
    ast.Raise, ast.Assert, ast.Delete, ast.Nonlocal, ast.Match, ast.With, ast.Try, ast.Expr, ast.FunctionDef,
    ast.ClassDef, ast.ImportFrom, ast.Global)


def files_with_trees():
    for file in FILES:
        text = file.read_text(encoding="utf-8")
        yield file.name, text, ast.parse(text)


def docstrings(tree):
    """The nodes of the docstrings of a file."""
    found = set()
    for node in ast.walk(tree):
        if isinstance(node, (ast.Module, ast.ClassDef, ast.FunctionDef)) and ast.get_docstring(node) is not None:
            found.add(node.body[0].value)
    return found


def strings(tree):
    """The strings of a file that are no docstrings."""
    told = docstrings(tree)
    return [node.value for node in ast.walk(tree)
            if isinstance(node, ast.Constant) and isinstance(node.value, str) and node not in told]


def bound_names(tree):
    """Names of variables, parameters, functions and classes."""
    for node in ast.walk(tree):
        if isinstance(node, ast.Name) and not isinstance(node.ctx, ast.Load):
            yield node.id
        elif isinstance(node, ast.arg):
            yield node.arg
        elif isinstance(node, (ast.FunctionDef, ast.ClassDef)):
            yield node.name


def imported_names(tree):
    return {alias.name for node in ast.walk(tree) if isinstance(node, ast.ImportFrom) for alias in node.names}


def inner_names(tree):
    """Names that are bound within functions: parameters and variables."""
    return {name for node in ast.walk(tree) if isinstance(node, (ast.FunctionDef, ast.Lambda))
            for name in bound_names(node) if name != getattr(node, "name", None)}


class LanguageTest(unittest.TestCase):
    def test_folder_has_nothing_else(self):
        others = [path for path in FOLDER.rglob("*") if path.is_file() and path.suffix != ".py"
                  and "__pycache__" not in path.parts]
        self.assertEqual(others, [])
        for file in FILES:
            self.assertTrue(re.fullmatch(r"[a-z0-9_]+\.py", file.name), file)

    def test_sizes_and_characters(self):
        for name, text, tree in files_with_trees():
            lines = text.split("\n")
            self.assertLessEqual(len(lines) - 1, 399, name)
            self.assertLessEqual(max(map(len, lines)), 120, name)
            self.assertTrue(all(" " <= sign <= "~" or sign == "\n" for sign in text), name)
            for node in ast.walk(tree):
                if isinstance(node, ast.FunctionDef):
                    self.assertLessEqual(node.end_lineno - node.lineno + 1, 40, node.name)

    def test_imports(self):
        for name, _, tree in files_with_trees():
            for node in ast.walk(tree):
                self.assertNotIsInstance(node, ast.Import, name)
                if isinstance(node, ast.ImportFrom):
                    self.assertEqual(node.level, 0, name)
                    told = {alias.name for alias in node.names}
                    if node.module in LIBRARY:
                        self.assertLessEqual(told, LIBRARY[node.module], name)
                    else:
                        self.assertTrue(node.module.startswith("formflow."), node.module)

    def test_no_imports_in_a_ring(self):
        reads = {}
        for name, _, tree in files_with_trees():
            reads[name[:-3]] = [node.module.split(".")[-1] for node in tree.body if isinstance(node, ast.ImportFrom)
                                and node.module.startswith("formflow.")]
        while reads:
            free = [name for name in reads if not any(other in reads for other in reads[name])]
            self.assertTrue(free, reads)
            for name in free:
                del reads[name]

    def test_statements(self):
        for name, _, tree in files_with_trees():
            for node in ast.walk(tree):
                if isinstance(node, ast.stmt):
                    self.assertIsInstance(node, STATEMENTS, name)
            for node in tree.body:
                self.assertIsInstance(node, (ast.Expr, ast.ImportFrom, ast.FunctionDef, ast.ClassDef, ast.Assign), name)

    def test_names_and_methods(self):
        known = set(BUILTINS) | METHODS
        for _, _, tree in files_with_trees():
            known |= set(bound_names(tree))
            known |= {alias.name for node in ast.walk(tree) if isinstance(node, ast.ImportFrom) for alias in node.names}
        for name, _, tree in files_with_trees():
            for word in bound_names(tree):
                self.assertNotIn(word, NAMES | BUILTINS, name)
                self.assertTrue(re.fullmatch(r"_|_?[A-Za-z][A-Za-z0-9_]*|__[a-z]+__", word), word)
            for node in ast.walk(tree):
                if isinstance(node, ast.Call):
                    called = node.func.id if isinstance(node.func, ast.Name) else getattr(node.func, "attr", None)
                    self.assertTrue(called in known or called == "__init__", (name, called))

    def test_one_meaning_for_each_name(self):
        for name, _, tree in files_with_trees():
            top = [node.name for node in tree.body if isinstance(node, (ast.FunctionDef, ast.ClassDef))]
            top += [target.id for node in tree.body if isinstance(node, ast.Assign) for target in node.targets]
            top += sorted(imported_names(tree))
            self.assertEqual(len(top), len(set(top)), name)
            self.assertFalse(set(top) & inner_names(tree), name)
            # Doctests of other files leave a "_" among the builtins.
            self.assertFalse((set(top) | inner_names(tree)) & (set(dir(builtins)) - {"_"}), name)

    def test_imports_are_used(self):
        for name, _, tree in files_with_trees():
            used = {node.id for node in ast.walk(tree) if isinstance(node, ast.Name)}
            self.assertFalse(imported_names(tree) - used, name)

    def test_names_come_from_the_file_that_defines_them(self):
        defined = {}
        for name, _, tree in files_with_trees():
            defined[f"formflow.{name[:-3]}"] = {
                word for node in tree.body if isinstance(node, (ast.FunctionDef, ast.ClassDef, ast.Assign))
                for word in bound_names(node)}
        for name, _, tree in files_with_trees():
            for node in tree.body:
                if isinstance(node, ast.ImportFrom) and node.module not in LIBRARY:
                    self.assertLessEqual({alias.name for alias in node.names}, defined[node.module], name)

    def test_what_stands_beside_is(self):
        for name, _, tree in files_with_trees():
            for node in ast.walk(tree):
                if isinstance(node, ast.Compare) and isinstance(node.ops[0], (ast.Is, ast.IsNot)):
                    other = node.comparators[0]
                    self.assertTrue(isinstance(other, ast.Constant) and other.value in (None, True, False), name)

    def test_tables_have_no_lists_or_dicts_in_them(self):
        for name, _, tree in files_with_trees():
            for node in tree.body:
                if isinstance(node, ast.Assign):
                    inner = [part for part in ast.walk(node.value) if part is not node.value]
                    self.assertFalse([part for part in inner if isinstance(part, (ast.List, ast.Dict, ast.Set))], name)

    def test_methods_are_no_attributes(self):
        for name, _, tree in files_with_trees():
            for made in ast.walk(tree):
                if isinstance(made, ast.ClassDef):
                    methods = [node.name for node in made.body if isinstance(node, ast.FunctionDef)]
                    stored = {node.attr for node in ast.walk(made)
                              if isinstance(node, ast.Attribute) and not isinstance(node.ctx, ast.Load)}
                    self.assertEqual(len(methods), len(set(methods)), (name, made.name))
                    self.assertFalse(stored & set(methods), (name, made.name))

    def test_values(self):
        for name, _, tree in files_with_trees():
            for node in ast.walk(tree):
                self.assertNotIsInstance(node, (ast.Div, ast.Await), name)
                if isinstance(node, ast.Constant):
                    self.assertNotIsInstance(node.value, (float, complex), name)
            for text in strings(tree):
                self.assertNotIn("%", text, name)
                self.assertFalse(WORDS & set(re.findall(r"\w+", text)), text)
                self.assertFalse(text.endswith(("._", ".__")), text)


if __name__ == "__main__":
    unittest.main()
