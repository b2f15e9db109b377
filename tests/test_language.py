"""The rules of the language subset that a look at the code can check."""

import ast
import builtins
import re
import unittest
from pathlib import Path

PACKAGE = Path(__file__).resolve().parent.parent / "whatran"

# Of these modules these names may be imported (L2).
LIBRARY = {
    "heapq": {"heappush", "heappop", "heapify", "heapreplace", "heappushpop"},
    "math": {"gcd", "lcm", "isqrt", "comb", "perm", "factorial"},
    "itertools": {
        "product", "combinations", "permutations",
        "chain", "accumulate", "pairwise", "islice", "zip_longest",
    },
    "collections": {"defaultdict"},
}
ALLOWED_BUILTINS = set(
    "len range enumerate zip min max sum abs sorted reversed int str bool bytes list tuple dict set"
    " frozenset isinstance ord repr any all divmod pow getattr hasattr setattr iter next map super"
    " property staticmethod classmethod object"
    " Exception ValueError TypeError KeyError IndexError LookupError ZeroDivisionError"
    " ArithmeticError OverflowError RuntimeError NotImplementedError AttributeError StopIteration"
    " NotImplemented".split()
)
CATCHABLE = {"KeyError", "ZeroDivisionError", "StopIteration", "ValueError", "LookupError", "IndexError"}
METHODS = set(
    "append clear copy count endswith extend find get index insert isalnum isalpha isdigit islower"
    " isspace isupper items join keys ljust lower lstrip partition pop remove replace reverse rfind"
    " rjust rpartition rsplit rstrip setdefault split splitlines startswith strip update upper values"
    " zfill bit_length title capitalize swapcase casefold center expandtabs removeprefix removesuffix"
    " rindex isascii isdecimal isnumeric istitle isidentifier isprintable translate encode decode hex"
    " from_bytes add discard format sort from_iterable maketrans".split()
)
BARRED_WORDS = set(
    "type typing typing_extensions enum Enum IntEnum StrEnum Flag IntFlag Generic Protocol ABC ABCMeta"
    " namedtuple NamedTuple TypedDict TYPE_CHECKING abstractmethod dataclass overload contextmanager"
    " register mro elements open input law version_info with_traceback add_note attrgetter breakpoint"
    " builtins compile copyright credits delattr dir eval exec exit gc globals help id importlib"
    " license locals methodcaller os quit vars".split()
)
BARRED_NODES = (
    ast.Global, ast.AsyncFunctionDef, ast.AsyncFor, ast.AsyncWith, ast.Await, ast.Div, ast.MatMult,
    ast.Import,
)


def package_files():
    return sorted(PACKAGE.rglob("*.py"))


def trees():
    for path in package_files():
        yield path, ast.parse(path.read_text(encoding="ascii"), str(path))


def nodes():
    for path, tree in trees():
        for node in ast.walk(tree):
            yield f"{path.name}:{getattr(node, 'lineno', 0)}", node


def own_words():
    """The names of all functions, methods and attributes that the package makes."""
    found = set()
    for _, node in nodes():
        if isinstance(node, (ast.FunctionDef, ast.ClassDef)):
            found.add(node.name)
        if isinstance(node, ast.Attribute) and isinstance(node.ctx, ast.Store):
            found.add(node.attr)
    return found


def bound_names(node):
    if isinstance(node, (ast.FunctionDef, ast.ClassDef)):
        return [node.name]
    if isinstance(node, ast.arg):
        return [node.arg]
    if isinstance(node, ast.Name) and isinstance(node.ctx, ast.Store):
        return [node.id]
    if isinstance(node, ast.alias):
        return [node.name]
    return []


def imports_of(tree):
    return [node for node in tree.body if isinstance(node, ast.ImportFrom)]


def targets(node):
    """The names of parameters and of what is assigned below a function."""
    for one in ast.walk(node):
        if isinstance(one, ast.arg):
            yield one.arg
        if isinstance(one, ast.Name) and isinstance(one.ctx, ast.Store):
            yield one.id


class FilesTest(unittest.TestCase):
    def test_the_folder_holds_plain_files_alone(self):
        for path in PACKAGE.rglob("*"):
            if "__pycache__" not in path.parts and path.is_file():
                self.assertRegex(path.name, r"\A[a-z0-9_]+\.py\Z")

    def test_characters_and_sizes(self):
        for path in package_files():
            text = path.read_text(encoding="utf-8")
            self.assertEqual(re.findall(r"[^ -~\n]", text), [], path)
            lines = text.split("\n")
            self.assertLess(len(lines), 400, path)
            self.assertLessEqual(max(len(line) for line in lines), 120, path)

    def test_functions_are_small(self):
        for place, node in nodes():
            if isinstance(node, ast.FunctionDef):
                self.assertLessEqual(node.end_lineno - node.lineno + 1, 40, place)


class StatementsTest(unittest.TestCase):
    def test_module_level_holds_no_code_that_runs(self):
        allowed = (ast.ImportFrom, ast.FunctionDef, ast.ClassDef, ast.Assign)
        for path, tree in trees():
            for at, node in enumerate(tree.body):
                docstring = at == 0 and isinstance(node, ast.Expr) and isinstance(node.value, ast.Constant)
                self.assertTrue(docstring or isinstance(node, allowed), f"{path.name}:{node.lineno}")
                if isinstance(node, ast.Assign):
                    calls = [one for one in ast.walk(node) if isinstance(one, ast.Call)]
                    self.assertEqual(calls, [], f"{path.name}:{node.lineno}")

    def test_imports(self):
        for place, node in nodes():
            if isinstance(node, ast.ImportFrom):
                names = {alias.name for alias in node.names}
                self.assertEqual(node.level, 0, place)
                if node.module in LIBRARY:
                    self.assertTrue(names <= LIBRARY[node.module], place)
                    self.assertEqual([alias.asname for alias in node.names if alias.asname], [], place)
                else:
                    self.assertTrue(node.module.startswith("whatran."), place)
                    self.assertNotIn("*", names, place)

    def test_no_two_files_import_from_each_other(self):
        left = {
            f"whatran.{path.stem}": {node.module for node in imports_of(tree) if node.module not in LIBRARY}
            for path, tree in trees()
        }
        while left:
            free = [name for name in left if not left[name] & set(left)]
            self.assertNotEqual(free, [], sorted(left))
            for name in free:
                del left[name]

    def test_imported_names_are_those_of_the_file_that_defines_them(self):
        defined = {}
        for path, tree in trees():
            words = [name for node in tree.body if not isinstance(node, ast.ImportFrom) for name in bound_names(node)]
            words += [name for node in tree.body if isinstance(node, ast.Assign) for name in targets(node)]
            defined[f"whatran.{path.stem}"] = words
        for path, tree in trees():
            for node in imports_of(tree):
                if node.module not in LIBRARY:
                    for alias in node.names:
                        self.assertIn(alias.name, defined[node.module], path.name)
                        self.assertIsNone(alias.asname, path.name)

    def test_no_barred_statement_or_operator(self):
        for place, node in nodes():
            self.assertNotIsInstance(node, BARRED_NODES, place)

    def test_no_float_and_no_percent_sign_in_texts(self):
        for place, node in nodes():
            if isinstance(node, ast.Constant):
                self.assertNotIsInstance(node.value, (float, complex), place)
                if isinstance(node.value, str):
                    self.assertNotIn("%", node.value, place)

    def test_no_generators_no_sets_and_no_sort_in_place(self):
        # Stricter than the subset, which allows some of each; so there is nothing to mind.
        for place, node in nodes():
            self.assertNotIsInstance(node, (ast.GeneratorExp, ast.Yield, ast.YieldFrom, ast.Set, ast.SetComp), place)
            self.assertNotIsInstance(node, (ast.Lambda, ast.NamedExpr, ast.Match, ast.With, ast.Nonlocal), place)
            if isinstance(node, ast.Call) and isinstance(node.func, ast.Name):
                self.assertNotIn(node.func.id, ("set", "frozenset", "iter", "next", "bytes", "map"), place)
            if isinstance(node, ast.Call) and isinstance(node.func, ast.Attribute):
                self.assertNotIn(node.func.attr, ("sort", "encode", "decode", "hex", "format"), place)

    def test_views_zips_and_ranges_are_iterated_at_once(self):
        for place, node in nodes():
            if isinstance(node, (ast.Assign, ast.Return)) and isinstance(node.value, ast.Call):
                called = node.value.func
                word = called.attr if isinstance(called, ast.Attribute) else getattr(called, "id", "")
                self.assertNotIn(word, ("items", "keys", "values", "zip", "enumerate", "reversed"), place)

    def test_is_stands_beside_none_and_truths_alone(self):
        for place, node in nodes():
            if isinstance(node, ast.Compare) and any(isinstance(one, (ast.Is, ast.IsNot)) for one in node.ops):
                self.assertIsInstance(node.comparators[0], ast.Constant, place)

    def test_no_dict_is_copied_by_a_call(self):
        for place, node in nodes():
            if isinstance(node, ast.Call):
                word = getattr(node.func, "id", getattr(node.func, "attr", ""))
                self.assertNotIn(word, ("dict", "copy", "update"), place)

    def test_only_these_errors_of_python_are_caught(self):
        for place, node in nodes():
            if isinstance(node, ast.ExceptHandler):
                self.assertIsNotNone(node.type, place)
                for one in ast.walk(node.type):
                    if isinstance(one, ast.Name) and hasattr(builtins, one.id):
                        self.assertIn(one.id, CATCHABLE, place)


class NamesTest(unittest.TestCase):
    def test_only_these_builtins_are_used(self):
        for place, node in nodes():
            if isinstance(node, ast.Name) and hasattr(builtins, node.id):
                self.assertIn(node.id, ALLOWED_BUILTINS, place)

    def test_no_name_has_another_meaning_in_python(self):
        for place, node in nodes():
            for name in bound_names(node):
                if not name.startswith("__"):
                    self.assertFalse(hasattr(builtins, name), f"{place} {name}")

    def test_no_barred_word(self):
        for place, node in nodes():
            words = bound_names(node)
            if isinstance(node, ast.Attribute):
                words = [node.attr]
            for word in words:
                self.assertNotIn(word, BARRED_WORDS, place)

    def test_names_begin_with_a_letter_or_one_underscore(self):
        barred = r"_(wall|pe_|dcw_|enum_|cm_|twin_re_|lay_|law_|stub_|sre|WallAttr)"
        barred += r"|_(cold|tuplegetter|outside|record|written_out|member_names)[_0-9]*$"
        for place, node in nodes():
            words = bound_names(node) + ([node.attr] if isinstance(node, ast.Attribute) else [])
            for word in words:
                if not re.fullmatch(r"__[a-z]+__|_", word):
                    self.assertRegex(word, r"\A_?[A-Za-z][A-Za-z0-9_]*\Z", place)
                    self.assertIsNone(re.match(barred, word), f"{place} {word}")

    def test_no_local_name_is_an_import_or_a_class_of_its_file(self):
        for path, tree in trees():
            barred = {alias.name for node in imports_of(tree) for alias in node.names}
            barred |= {node.name for node in tree.body if isinstance(node, ast.ClassDef)}
            for node in ast.walk(tree):
                if isinstance(node, ast.FunctionDef):
                    self.assertEqual(barred & set(targets(node)), set(), f"{path.name}:{node.lineno}")

    def test_no_name_is_a_method_and_an_attribute(self):
        # Stricter than the subset, which allows it in two classes under conditions.
        methods = {
            one.name for _, node in nodes() if isinstance(node, ast.ClassDef)
            for one in node.body if isinstance(one, ast.FunctionDef)
        }
        stored = {
            node.attr for _, node in nodes() if isinstance(node, ast.Attribute) and isinstance(node.ctx, ast.Store)
        }
        self.assertEqual(methods & stored, set())
        self.assertEqual(stored & METHODS, set())

    def test_only_these_methods_are_called(self):
        known = METHODS | own_words()
        for place, node in nodes():
            if isinstance(node, ast.Call) and isinstance(node.func, ast.Attribute):
                if node.func.attr != "__init__":
                    self.assertIn(node.func.attr, known, place)

    def test_names_are_bound_once_at_module_level(self):
        for path, tree in trees():
            names = [name for node in tree.body for one in [node, *getattr(node, "names", [])]
                     for name in bound_names(one)]
            names += [target.id for node in tree.body if isinstance(node, ast.Assign) for target in node.targets]
            self.assertEqual(len(names), len(set(names)), path.name)


if __name__ == "__main__":
    unittest.main()
