"""The rules of LANGUAGE.md that the text of the package shows, by their numbers."""

import ast
import pathlib
import re
import unittest

PACKAGE = pathlib.Path(__file__).resolve().parent.parent / "owedafresh"
FILES = sorted(path for path in PACKAGE.rglob("*") if path.is_file() and "__pycache__" not in path.parts)
TREES = {path: ast.parse(path.read_text()) for path in FILES if path.suffix == ".py"}

BUILTINS = """len range enumerate zip min max sum abs sorted reversed int str bool list tuple dict set isinstance ord
    repr any all divmod getattr hasattr setattr ValueError TypeError KeyError IndexError LookupError NotImplemented
    property staticmethod classmethod map iter super""".split()
LIBRARY = {
    "heapq": ["heappush", "heappop", "heapify", "heapreplace", "heappushpop"],
    "math": ["gcd", "lcm", "isqrt", "comb", "perm", "factorial"],
    "itertools": ["product", "combinations", "permutations", "chain", "accumulate", "pairwise", "islice",
                  "zip_longest"],
    "collections": ["defaultdict", "deque"],
}
DUNDERS = """__init__ __eq__ __repr__ __str__ __len__ __enter__ __exit__ __call__ __iter__ __lt__ __le__ __gt__ __ge__
    __ne__ __bool__ __contains__ __getitem__ __setitem__""".split()
METHODS = """append clear copy count endswith extend find get index insert isalnum isalpha isdigit islower isspace
    isupper items join keys ljust lower lstrip partition pop remove replace reverse rfind rjust rpartition rsplit rstrip
    setdefault split splitlines startswith strip update upper values zfill bit_length add discard popleft
    appendleft title capitalize swapcase casefold center expandtabs removeprefix removesuffix rindex isascii isdecimal
    isnumeric istitle isidentifier isprintable""".split()
STATEMENTS = (ast.Assign, ast.AugAssign, ast.If, ast.While, ast.For, ast.Return, ast.Break, ast.Continue, ast.Pass,
              ast.Raise, ast.Assert, ast.Delete, ast.Nonlocal, ast.Match, ast.With, ast.Try, ast.Expr,
              ast.FunctionDef, ast.ClassDef, ast.ImportFrom)
BARRED = """mro elements open input law version_info with_traceback add_note eval exec globals locals vars dir help id
    compile delattr breakpoint exit quit os sys gc importlib builtins hash next round filter print format""".split()
WORDS = """type typing typing_extensions enum Enum IntEnum StrEnum Flag IntFlag Generic Protocol ABC ABCMeta namedtuple
    NamedTuple TypedDict TYPE_CHECKING abstractmethod dataclass overload contextmanager""".split()


def nodes(*kinds):
    """All parts of the package of these kinds, with their files."""
    return [(path, node) for path, tree in TREES.items() for node in ast.walk(tree) if isinstance(node, kinds)]


def named(node):
    """The names that a part of the package gives to something."""
    if isinstance(node, (ast.FunctionDef, ast.ClassDef)):
        return [node.name]
    if isinstance(node, ast.arg):
        return [node.arg]
    if isinstance(node, ast.Name) and isinstance(node.ctx, ast.Store):
        return [node.id]
    if isinstance(node, ast.alias):
        return [node.name]
    return []


class TestFiles(unittest.TestCase):
    def test_the_folder_holds_python_files_alone(self):
        self.assertIn(PACKAGE / "__init__.py", FILES)
        for path in FILES:
            self.assertRegex(path.name, r"^[a-z_][a-z0-9_]*\.py$", "L1, L14")
            self.assertFalse(re.match(r"test|law_|site", path.name), "L14")

    def test_characters_lines_and_files(self):
        for path in FILES:
            text = path.read_text()
            self.assertTrue(all(sign == "\n" or " " <= sign <= "~" for sign in text), "L14")
            self.assertLessEqual(len(text.splitlines()), 399, "L10")
            self.assertTrue(all(len(line) <= 120 for line in text.splitlines()), "L10")

    def test_functions_have_at_most_40_lines(self):
        for _, node in nodes(ast.FunctionDef):
            self.assertLessEqual(node.end_lineno - node.lineno + 1, 40, f"L10 {node.name}")

    def test_words_that_do_not_occur(self):
        for _, node in nodes(ast.Name, ast.Attribute, ast.arg, ast.FunctionDef, ast.ClassDef, ast.keyword):
            for field in ("id", "attr", "arg", "name"):
                self.assertNotIn(getattr(node, field, None), WORDS + BARRED[:8], "L17")


class TestImports(unittest.TestCase):
    def test_imports_name_the_file_that_defines_the_name(self):
        self.assertEqual(nodes(ast.Import), [], "L16")
        for path, node in nodes(ast.ImportFrom):
            self.assertIn(node, TREES[path].body, "L2")
            self.assertEqual(node.level, 0, "L2")
            if node.module in LIBRARY:
                self.assertTrue(all(each.name in LIBRARY[node.module] and not each.asname for each in node.names), "L2")
                continue
            self.assertTrue(node.module.startswith("owedafresh."), "L2")
            source = PACKAGE.joinpath(*node.module.split(".")[1:]).with_suffix(".py")
            defined = [name for part in TREES[source].body for name in self.bound(part)]
            for each in node.names:
                self.assertIn(each.name, defined, "L16")

    def bound(self, part):
        if isinstance(part, (ast.FunctionDef, ast.ClassDef)):
            return [part.name]
        if isinstance(part, ast.Assign):
            return [target.id for target in part.targets]
        return []

    def test_no_two_files_import_from_each_other(self):
        ways = {path.stem: [node.module.split(".")[-1] for where, node in nodes(ast.ImportFrom)
                            if where == path and node.module.startswith("owedafresh.")] for path in TREES}
        left = dict(ways)
        while left:
            free = [name for name in left if not any(other in left for other in left[name])]
            self.assertTrue(free, "L16")
            left = {name: left[name] for name in left if name not in free}

    def test_module_level(self):
        for path, tree in TREES.items():
            for at, part in enumerate(tree.body):
                if isinstance(part, ast.Expr):
                    self.assertTrue(at == 0 and isinstance(part.value.value, str), "L3")
                elif isinstance(part, ast.Assign):
                    self.assertTrue(len(part.targets) == 1 and isinstance(part.targets[0], ast.Name), "L3")
                    ast.literal_eval(part.value)
                else:
                    self.assertIsInstance(part, (ast.ImportFrom, ast.FunctionDef, ast.ClassDef), "L3")
            names = [name for part in tree.body for name in self.bound(part)]
            names += [each.name for part in tree.body if isinstance(part, ast.ImportFrom) for each in part.names]
            self.assertEqual(len(names), len(set(names)), "L15")


class TestCode(unittest.TestCase):
    def test_statements(self):
        for _, node in nodes(ast.stmt):
            self.assertIsInstance(node, STATEMENTS, "L6")

    def test_no_floats_and_no_plain_division(self):
        for _, node in nodes(ast.Constant):
            self.assertNotIsInstance(node.value, (float, complex), "L7")
            if isinstance(node.value, str):
                self.assertNotIn(chr(37), node.value, "L27")
        self.assertEqual(nodes(ast.Div, ast.Lambda, ast.GeneratorExp, ast.Global, ast.AsyncFunctionDef), [], "L6, L7")

    def test_decorators_and_methods(self):
        for _, node in nodes(ast.ClassDef):
            self.assertEqual(node.decorator_list, [], "L5")
            own = [part.name for part in node.body if isinstance(part, ast.FunctionDef)]
            if "__getitem__" in own:
                self.assertIn("__iter__", own, "L5")
        for path, node in nodes(ast.FunctionDef):
            if node in TREES[path].body:
                self.assertEqual(node.decorator_list, [], "L4")
            for each in node.decorator_list:
                self.assertIn(getattr(each, "id", None), ("property", "staticmethod", "classmethod"), "L5")
            if node.name.startswith("__"):
                self.assertIn(node.name, DUNDERS, "L5")

    def test_names(self):
        builtin_names = __builtins__ if isinstance(__builtins__, dict) else vars(__builtins__)
        for path, tree in TREES.items():
            imported = [each.name for part in tree.body if isinstance(part, ast.ImportFrom) for each in part.names]
            imported += [part.name for part in tree.body if isinstance(part, ast.ClassDef)]
            for node in ast.walk(tree):
                for name in named(node):
                    self.assertRegex(name, r"^(_|_?[A-Za-z][A-Za-z0-9_]*|__[a-z]+__)$", "L12")
                    self.assertNotIn(name, builtin_names, "L15")
                    if isinstance(node, (ast.arg, ast.Name)):
                        self.assertNotIn(name, imported, "L15")
                if isinstance(node, ast.Name) and node.id == "_":
                    self.assertIsInstance(node.ctx, ast.Store, "L12")

    def test_builtins_and_methods_that_are_called(self):
        builtin_names = __builtins__ if isinstance(__builtins__, dict) else vars(__builtins__)
        own = [part.name for _, node in nodes(ast.ClassDef) for part in node.body if isinstance(part, ast.FunctionDef)]
        for _, node in nodes(ast.Name):
            if isinstance(node.ctx, ast.Load) and node.id in builtin_names:
                self.assertIn(node.id, BUILTINS, "L8")
        for _, node in nodes(ast.Call):
            if isinstance(node.func, ast.Attribute):
                self.assertIn(node.func.attr, METHODS + own, "L25")

    def test_is_beside_none_true_and_false(self):
        for _, node in nodes(ast.Compare):
            if any(isinstance(sign, (ast.Is, ast.IsNot)) for sign in node.ops):
                self.assertIsInstance(node.comparators[0], ast.Constant, "L20")

    def test_errors_are_raised_by_name(self):
        for _, node in nodes(ast.Raise):
            if node.exc is not None:
                self.assertIsInstance(node.exc, ast.Call, "L19")
                self.assertIsInstance(node.exc.func, ast.Name, "L19")
        for _, node in nodes(ast.ExceptHandler):
            self.assertIsNotNone(node.type, "L19")

    def test_what_a_loop_goes_over_is_not_changed_in_it(self):
        changing = ("append", "extend", "insert", "pop", "remove", "clear", "reverse", "update", "setdefault")
        for _, loop in nodes(ast.For):
            over = {part.id for part in ast.walk(loop.iter) if isinstance(part, ast.Name)}
            for part in [inner for row in loop.body for inner in ast.walk(row)]:
                if isinstance(part, ast.Call) and isinstance(part.func, ast.Attribute) and part.func.attr in changing:
                    self.assertNotIn(getattr(part.func.value, "id", None), over, "L23")

    def test_equality_first_asks_for_the_class(self):
        for _, node in nodes(ast.FunctionDef):
            if node.name == "__eq__":
                self.assertTrue(ast.unparse(node.body[0]).startswith("if not isinstance(other, "), "L28")


if __name__ == "__main__":
    unittest.main()
