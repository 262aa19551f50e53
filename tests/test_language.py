"""Holds the files of the package against those rules of LANGUAGE.md that a script can see."""

import ast
import builtins
import io
import pathlib
import tokenize
import unittest

PACKAGE = pathlib.Path(__file__).resolve().parent.parent / "pastamended"
LIBRARY = {
    "heapq": {"heappush", "heappop", "heapify", "heapreplace", "heappushpop"},
    "math": {"gcd", "lcm", "isqrt", "comb", "perm", "factorial"},
    "itertools": {"product", "combinations", "permutations", "chain", "accumulate", "pairwise", "islice",
                  "zip_longest"},
    "collections": {"defaultdict"},
}
BUILTINS = set("""
    len range enumerate zip min max sum abs sorted reversed int str bool bytes list tuple dict set frozenset isinstance
    ord repr any all divmod pow getattr hasattr setattr iter next map super property staticmethod classmethod
    Exception ValueError TypeError KeyError IndexError LookupError ZeroDivisionError ArithmeticError OverflowError
    RuntimeError NotImplementedError AttributeError StopIteration NotImplemented
""".split())
METHODS = set("""
    append clear copy count endswith extend find get index insert isalnum isalpha isdigit islower isspace isupper items
    join keys ljust lower lstrip partition pop remove replace reverse rfind rjust rpartition rsplit rstrip setdefault
    split splitlines startswith strip update upper values zfill bit_length title capitalize swapcase casefold center
    expandtabs removeprefix removesuffix rindex isascii isdecimal isnumeric istitle isidentifier isprintable translate
    add discard format sort __init__
""".split())
DOUBLE_UNDERSCORE = set("__init__ __eq__ __repr__ __str__ __len__ __enter__ __exit__ __call__ __iter__".split())
UNUSED_NAMES = set("register mro elements open input law version_info with_traceback add_note".split())
UNUSED_VARIABLES = set("""
    attrgetter breakpoint builtins compile copyright credits delattr dir eval exec exit gc getattr globals hasattr help
    id importlib license locals methodcaller os quit setattr super type vars sys __name__
""".split())
UNUSED_WORDS = set("""
    type typing typing_extensions enum Enum IntEnum StrEnum Flag IntFlag Generic Protocol ABC ABCMeta namedtuple
    NamedTuple TypedDict TYPE_CHECKING abstractmethod _wall _WallAttr
""".split())
STATEMENTS = (
    ast.Assign, ast.AugAssign, ast.AnnAssign, ast.If, ast.While, ast.For, ast.Return, ast.Break, ast.Continue, ast.Pass,
    ast.Raise, ast.Assert, ast.Delete, ast.Nonlocal, ast.Match, ast.With, ast.Try, ast.Expr, ast.FunctionDef,
    ast.ClassDef, ast.ImportFrom,
)
BARRED_NODES = (
    ast.Global, ast.AsyncFunctionDef, ast.AsyncFor, ast.AsyncWith, ast.Await, ast.Div, ast.MatMult,
)


def files():
    return sorted(PACKAGE.glob("*.py"))


def trees():
    return {path.name: ast.parse(path.read_text()) for path in files()}


def bound_names(tree):
    """All names that functions, classes, parameters, assignments, loops and handlers bind."""
    names = []
    for node in ast.walk(tree):
        if isinstance(node, ast.Name) and not isinstance(node.ctx, ast.Load):
            names.append(node.id)
        elif isinstance(node, (ast.FunctionDef, ast.ClassDef)):
            names.append(node.name)
        elif isinstance(node, ast.arg):
            names.append(node.arg)
        elif isinstance(node, ast.ExceptHandler) and node.name:
            names.append(node.name)
        elif isinstance(node, ast.alias):
            names.append(node.asname or node.name)
    return names


def methods_of(tree):
    return [node for one in ast.walk(tree) if isinstance(one, ast.ClassDef)
            for node in one.body if isinstance(node, ast.FunctionDef)]


class FilesTest(unittest.TestCase):
    def test_only_plain_files(self):
        names = [path.name for path in PACKAGE.iterdir() if path.name != "__pycache__"]
        self.assertIn("__init__.py", names)
        for name in names:
            self.assertRegex(name, "^[a-z0-9_]+[.]py$")
            self.assertFalse(name.startswith(("test", "law_")))
            self.assertNotIn(name[:-3], dir(builtins))

    def test_sizes(self):
        for path in files():
            lines = path.read_text().split("\n")
            self.assertLessEqual(len(lines), 399, path)
            self.assertLessEqual(max([len(line) for line in lines]), 120, path)
        for name, tree in trees().items():
            for node in ast.walk(tree):
                if isinstance(node, ast.FunctionDef):
                    self.assertLessEqual(node.end_lineno - node.lineno + 1, 40, f"{name} {node.name}")

    def test_characters(self):
        for path in files():
            for character in path.read_bytes().decode("ascii"):
                self.assertTrue(character == "\n" or " " <= character <= "~", path)

    def test_strings(self):
        for name, tree in trees().items():
            for node in ast.walk(tree):
                if isinstance(node, ast.Constant) and isinstance(node.value, str):
                    self.assertNotIn("%", node.value, name)
        for path in files():
            for token in tokenize.generate_tokens(io.StringIO(path.read_text()).readline):
                if token.type == tokenize.STRING:
                    plain = token.string
                    for escape in ("\\n", "\\t", "\\\\", "\\'", '\\"'):
                        plain = plain.replace(escape, "")
                    self.assertNotIn("\\", plain, path)


class ImportsTest(unittest.TestCase):
    def test_imports_stand_at_the_top(self):
        for name, tree in trees().items():
            body = tree.body[1:] if ast.get_docstring(tree) is not None else tree.body
            kinds = [isinstance(node, ast.ImportFrom) for node in body]
            self.assertEqual(kinds, sorted(kinds, reverse=True), name)
            inner = [node for node in ast.walk(tree) if isinstance(node, (ast.Import, ast.ImportFrom))]
            self.assertEqual(len(inner), kinds.count(True), name)

    def test_imports_name_the_defining_file(self):
        for name, tree in trees().items():
            for node in tree.body:
                if isinstance(node, ast.ImportFrom):
                    self.assertEqual(node.level, 0)
                    self.check_import(name, node.module, [alias.name for alias in node.names])

    def check_import(self, name, module, names):
        if module in LIBRARY:
            self.assertLessEqual(set(names), LIBRARY[module], name)
            return
        self.assertRegex(module, "^pastamended[.][a-z_]+$", name)
        defined = self.defined(trees()[module.split(".")[1] + ".py"])
        self.assertLessEqual(set(names), defined, name)

    def defined(self, tree):
        names = {node.name for node in tree.body if isinstance(node, (ast.FunctionDef, ast.ClassDef))}
        return names | {node.targets[0].id for node in tree.body if isinstance(node, ast.Assign)}

    def test_no_file_imports_itself_by_others(self):
        imports = {name: {node.module.split(".")[1] + ".py" for node in tree.body
                          if isinstance(node, ast.ImportFrom) and node.module.startswith("pastamended.")}
                   for name, tree in trees().items()}
        done = set()
        while len(done) < len(imports):
            ready = [name for name in imports if name not in done and imports[name] <= done]
            self.assertTrue(ready, "a circle of imports")
            done |= set(ready)


class ModulesTest(unittest.TestCase):
    def test_module_level(self):
        for name, tree in trees().items():
            body = tree.body[1:] if ast.get_docstring(tree) is not None else tree.body
            for node in body:
                self.assertIsInstance(node, (ast.ImportFrom, ast.FunctionDef, ast.ClassDef, ast.Assign), name)
                if isinstance(node, ast.Assign):
                    self.assertEqual([target.__class__ for target in node.targets], [ast.Name], name)
                    self.assertFalse([part for part in ast.walk(node.value) if isinstance(part, ast.Call)], name)

    def test_names_are_bound_once(self):
        for name, tree in trees().items():
            names = [alias.asname or alias.name for node in tree.body if isinstance(node, ast.ImportFrom)
                     for alias in node.names]
            names += [node.name for node in tree.body if isinstance(node, (ast.FunctionDef, ast.ClassDef))]
            names += [node.targets[0].id for node in tree.body if isinstance(node, ast.Assign)]
            self.assertEqual(sorted(names), sorted(set(names)), name)
            bound = [one for one in bound_names(tree) if one in names]
            self.assertEqual(sorted(bound), sorted(names), f"{name}: a local name hides a name of the module")

    def test_statements(self):
        for name, tree in trees().items():
            for node in ast.walk(tree):
                self.assertNotIsInstance(node, BARRED_NODES, name)
                if isinstance(node, ast.stmt):
                    self.assertIsInstance(node, STATEMENTS, name)
                if isinstance(node, (ast.FunctionDef, ast.ClassDef)):
                    self.assertEqual(node.decorator_list, [], name)
                if isinstance(node, ast.Constant):
                    self.assertNotIsInstance(node.value, (float, complex), name)

    def test_is_stands_beside_none(self):
        for name, tree in trees().items():
            for node in ast.walk(tree):
                if isinstance(node, ast.Compare) and isinstance(node.ops[0], (ast.Is, ast.IsNot)):
                    self.assertIn(getattr(node.comparators[0], "value", ""), (None, True, False), name)


class NamesTest(unittest.TestCase):
    def test_builtins(self):
        for name, tree in trees().items():
            for node in ast.walk(tree):
                if isinstance(node, ast.Name) and node.id in dir(builtins):
                    self.assertIn(node.id, BUILTINS, name)

    def test_bound_names(self):
        for name, tree in trees().items():
            methods = [node.name for node in methods_of(tree)]
            for bound in bound_names(tree):
                self.assertRegex(bound, "^[A-Za-z_][A-Za-z0-9_]*$")
                self.assertNotIn(bound, UNUSED_NAMES | UNUSED_VARIABLES, name)
                if bound not in methods:
                    self.assertNotIn(bound, dir(builtins), name)
                    self.assertFalse(bound.startswith("__"), name)

    def test_attributes(self):
        for name, tree in trees().items():
            for node in ast.walk(tree):
                if isinstance(node, ast.Attribute):
                    self.assertNotIn(node.attr, UNUSED_NAMES | {"format_map"}, name)
                    self.assertTrue(not node.attr.startswith("__") or node.attr == "__init__", name)

    def test_methods_of_builtin_values(self):
        own = {node.name for tree in trees().values() for node in methods_of(tree)}
        for name, tree in trees().items():
            for node in ast.walk(tree):
                if isinstance(node, ast.Call) and isinstance(node.func, ast.Attribute):
                    self.assertIn(node.func.attr, METHODS | own, name)

    def test_no_name_is_a_method_and_an_attribute(self):
        methods = {node.name for tree in trees().values() for node in methods_of(tree)}
        for name, tree in trees().items():
            for node in ast.walk(tree):
                if isinstance(node, ast.Attribute) and isinstance(node.ctx, ast.Store):
                    self.assertNotIn(node.attr, methods, name)

    def test_stars_in_calls(self):
        for name, tree in trees().items():
            for node in ast.walk(tree):
                if isinstance(node, ast.Call):
                    stars = [at for at, part in enumerate(node.args) if isinstance(part, ast.Starred)]
                    for part in node.args[stars[0]:] if stars else []:
                        plain = part.value if isinstance(part, ast.Starred) else part
                        self.assertIsInstance(plain, (ast.Name, ast.Attribute, ast.Constant), f"{name} {node.lineno}")

    def test_double_underscore_methods(self):
        for name, tree in trees().items():
            for node in methods_of(tree):
                if node.name.startswith("__"):
                    self.assertIn(node.name, DOUBLE_UNDERSCORE, name)

    def test_unused_words(self):
        for path in files():
            for token in tokenize.generate_tokens(io.StringIO(path.read_text()).readline):
                if token.type == tokenize.NAME:
                    self.assertNotIn(token.string, UNUSED_WORDS, path)


if __name__ == "__main__":
    unittest.main()
