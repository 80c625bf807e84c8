"""The files of the package keep the rules of the Python subset that can be seen line by line."""

import ast
import builtins
import pathlib
import re
import unittest

PACKAGE = pathlib.Path(__file__).resolve().parent.parent / "firstbreach"
LIBRARY = {
    "heapq": {"heappush", "heappop", "heapify", "heapreplace", "heappushpop"},
    "math": {"gcd", "lcm", "isqrt", "comb", "perm", "factorial"},
    "itertools": {"product", "combinations", "permutations"},
}
BUILTINS = set(
    "len range enumerate zip min max sum abs sorted reversed int str bool bytes list tuple dict set frozenset "
    "isinstance ord repr any all divmod iter next map super property staticmethod classmethod ValueError KeyError "
    "TypeError ZeroDivisionError NotImplemented".split()
)
DUNDERS = set(
    "__init__ __eq__ __repr__ __str__ __len__ __enter__ __exit__ __call__ __iter__ __bool__ __contains__ "
    "__getitem__ __and__ __or__".split()
)
BARRED_NAMES = set(
    "register mro elements open input law attrgetter breakpoint builtins compile copyright credits delattr dir eval "
    "exec exit gc getattr globals hasattr help id importlib license locals methodcaller os quit setattr type vars "
    "format _".split()
)
BARRED_NODES = (
    ast.Global, ast.AsyncFunctionDef, ast.AsyncFor, ast.AsyncWith, ast.Await, ast.Import, ast.Div, ast.MatMult,
    ast.GeneratorExp, ast.AnnAssign, ast.Delete, ast.Nonlocal,
)


def package_files():
    return sorted(PACKAGE.glob("*.py"))


def trees():
    return [(path.name, ast.parse(path.read_text(encoding="ascii"))) for path in package_files()]


def nodes_of(kind):
    return [(name, node) for name, tree in trees() for node in ast.walk(tree) if isinstance(node, kind)]


class LanguageTest(unittest.TestCase):
    def test_the_package_is_one_folder_of_python_files(self):
        others = [path.name for path in PACKAGE.iterdir() if path.name != "__pycache__" and path.suffix != ".py"]
        self.assertEqual(others, [])
        self.assertIn("__init__.py", [path.name for path in package_files()])

    def test_files_and_lines_are_short(self):
        for path in package_files():
            lines = path.read_text(encoding="ascii").split("\n")
            self.assertLessEqual(len(lines), 399, path.name)
            for at, line in enumerate(lines, start=1):
                self.assertLessEqual(len(line), 120, f"{path.name}:{at}")
                self.assertTrue(all(" " <= char <= "~" for char in line), f"{path.name}:{at}")

    def test_functions_are_short(self):
        for name, node in nodes_of(ast.FunctionDef):
            self.assertLessEqual(node.end_lineno - node.lineno + 1, 40, f"{name} {node.name}")

    def test_imports_name_the_file_that_defines_them(self):
        defined = {
            path.stem: {
                target
                for node in ast.parse(path.read_text()).body
                for target in (
                    [node.name]
                    if isinstance(node, (ast.FunctionDef, ast.ClassDef))
                    else [one.id for one in node.targets] if isinstance(node, ast.Assign) else []
                )
            }
            for path in package_files()
        }
        for name, node in nodes_of(ast.ImportFrom):
            names = {alias.name for alias in node.names}
            self.assertEqual(node.level, 0, name)
            if node.module in LIBRARY:
                self.assertLessEqual(names, LIBRARY[node.module], name)
            else:
                package, _, module = node.module.partition(".")
                self.assertEqual(package, "firstbreach", name)
                self.assertLessEqual(names, defined[module], name)

    def test_imports_are_used(self):
        for name, tree in trees():
            used = {node.id for node in ast.walk(tree) if isinstance(node, ast.Name)}
            for node in tree.body:
                if isinstance(node, ast.ImportFrom):
                    self.assertLessEqual({alias.name for alias in node.names}, used, name)

    def test_imports_run_in_no_ring(self):
        imports = {}
        for name, node in nodes_of(ast.ImportFrom):
            if node.module not in LIBRARY:
                imports.setdefault(name, set()).add(node.module.partition(".")[2] + ".py")
        left = dict(imports)
        while left:
            free = [name for name in left if not left[name] & set(left)]
            self.assertTrue(free, left)
            for name in free:
                del left[name]

    def test_no_barred_statement_or_expression(self):
        self.assertEqual([(name, node.lineno) for name, node in nodes_of(BARRED_NODES)], [])

    def test_a_module_contains_only_definitions_and_plain_values(self):
        kinds = (ast.ImportFrom, ast.FunctionDef, ast.ClassDef, ast.Assign, ast.Expr)
        for name, tree in trees():
            for node in tree.body:
                self.assertIsInstance(node, kinds, f"{name}:{node.lineno}")
                if isinstance(node, ast.Assign):
                    ast.literal_eval(node.value)
                if isinstance(node, ast.Expr):
                    self.assertIsInstance(node.value, ast.Constant)

    def test_decorators(self):
        for name, node in nodes_of((ast.FunctionDef, ast.ClassDef)):
            decorators = [one.id for one in node.decorator_list]
            self.assertLessEqual(set(decorators), {"property", "staticmethod", "classmethod"}, name)

    def test_names(self):
        for name, tree in trees():
            bound = {alias.name for node in ast.walk(tree) if isinstance(node, ast.ImportFrom) for alias in node.names}
            for node in ast.walk(tree):
                if isinstance(node, (ast.FunctionDef, ast.ClassDef)):
                    bound.add(node.name)
                    if node.name.startswith("__"):
                        self.assertIn(node.name, DUNDERS, name)
                if isinstance(node, ast.arg):
                    bound.add(node.arg)
                if isinstance(node, ast.ExceptHandler) and node.name:
                    bound.add(node.name)
                if isinstance(node, ast.Name) and isinstance(node.ctx, ast.Store):
                    bound.add(node.id)
            self.assertEqual((bound - {"_"}) & (BUILTINS | BARRED_NAMES | set(dir(builtins))), set(), name)
            read = {node.id for node in ast.walk(tree) if isinstance(node, ast.Name) and isinstance(node.ctx, ast.Load)}
            self.assertLessEqual(read, bound | BUILTINS, name)
            self.assertNotIn("_", read, name)

    def test_strings(self):
        for name, node in nodes_of(ast.Constant):
            self.assertNotIsInstance(node.value, (float, complex), name)
            if isinstance(node.value, str):
                self.assertNotIn("%", node.value, name)
                self.assertNotIn("\t", node.value, name)

    def test_sets_are_not_iterated(self):
        for name, node in nodes_of((ast.For, ast.comprehension)):
            self.assertNotIsInstance(node.iter, (ast.Set, ast.SetComp), name)
            if isinstance(node.iter, ast.Call) and isinstance(node.iter.func, ast.Name):
                self.assertNotIn(node.iter.func.id, ("set", "frozenset"), name)

    def test_no_local_name_is_that_of_a_class_or_an_import(self):
        for name, tree in trees():
            taken = {alias.name for node in tree.body if isinstance(node, ast.ImportFrom) for alias in node.names}
            taken |= {node.name for node in tree.body if isinstance(node, ast.ClassDef)}
            local = {node.arg for node in ast.walk(tree) if isinstance(node, ast.arg)}
            local |= {node.id for node in ast.walk(tree) if isinstance(node, ast.Name) and isinstance(node.ctx, ast.Store)}
            self.assertEqual(local & taken, set(), name)

    def test_no_name_is_a_method_and_an_attribute(self):
        methods = {node.name for _, one in nodes_of(ast.ClassDef) for node in one.body if isinstance(node, ast.FunctionDef)}
        stored = {node.attr for _, node in nodes_of(ast.Attribute) if isinstance(node.ctx, ast.Store)}
        self.assertEqual(methods & stored, set())

    def test_attributes_that_are_read_are_assigned(self):
        methods = {node.name for _, node in nodes_of(ast.FunctionDef)}
        stored = {node.attr for _, node in nodes_of(ast.Attribute) if isinstance(node.ctx, ast.Store)}
        for name, tree in trees():
            called = {id(node.func) for node in ast.walk(tree) if isinstance(node, ast.Call)}
            for node in ast.walk(tree):
                if isinstance(node, ast.Attribute) and isinstance(node.ctx, ast.Load) and id(node) not in called:
                    self.assertTrue(node.attr in stored or node.attr in methods, f"{name}:{node.lineno} {node.attr}")

    def test_only_generators_have_the_names_of_generators(self):
        kinds = {}
        for name, node in nodes_of(ast.FunctionDef):
            inside = [one for one in ast.walk(node) if isinstance(one, (ast.Yield, ast.YieldFrom))]
            kinds.setdefault(node.name, []).append(bool(inside))
        for name, found in kinds.items():
            if any(found):
                self.assertEqual(found, [True], name)

    def test_methods_of_builtin_values(self):
        allowed = set(
            "append clear copy count endswith extend find get index insert isalnum isalpha isdigit islower isspace isupper "
            "items join keys ljust lower lstrip partition pop remove replace reverse rfind rjust rpartition rsplit rstrip "
            "setdefault split splitlines startswith strip update upper values zfill bit_length encode decode".split()
        )
        # An object with a method __call__ may be kept in an attribute and called.
        own = {node.name for _, node in nodes_of(ast.FunctionDef)} | {"choice"}
        for name, node in nodes_of(ast.Call):
            if isinstance(node.func, ast.Attribute):
                self.assertTrue(node.func.attr in allowed or node.func.attr in own, f"{name}:{node.lineno}")

    def test_words_that_do_not_occur(self):
        barred = set(
            "type typing typing_extensions enum Enum IntEnum StrEnum Flag IntFlag Generic Protocol ABC ABCMeta namedtuple "
            "NamedTuple TypedDict TYPE_CHECKING abstractmethod dataclass overload contextmanager Meta bytearray memoryview".split()
        )
        for path in package_files():
            words = set(re.findall("[A-Za-z_0-9]+", path.read_text(encoding="ascii")))
            self.assertEqual(words & barred, set(), path.name)


if __name__ == "__main__":
    unittest.main()
