"""Those rules of the language of the package that a look at its files can tell, by their numbers."""

import ast
import builtins
import pathlib
import re
import unittest

ROOT = pathlib.Path(__file__).resolve().parent.parent / "sixdot"
FILES = sorted(ROOT.rglob("*.py"))
LIBRARY = {
    "heapq": {"heappush", "heappop", "heapify", "heapreplace", "heappushpop"},
    "math": {"gcd", "lcm", "isqrt", "comb", "perm", "factorial"},
    "itertools": {"product", "combinations", "permutations", "chain", "accumulate", "pairwise", "islice", "zip_longest"},
    "collections": {"defaultdict", "deque"},
}
BUILTINS = set(
    "len range enumerate zip min max sum abs sorted reversed int str bool list tuple dict set isinstance ord repr any all"
    " divmod iter next map super Exception ValueError TypeError KeyError IndexError LookupError ZeroDivisionError"
    " RuntimeError NotImplementedError StopIteration".split()
)
METHODS = set(
    "append clear copy count endswith extend find get index insert isalnum isalpha isdigit islower isspace isupper items"
    " join keys ljust lower lstrip partition pop remove replace reverse rfind rjust rpartition rsplit rstrip setdefault"
    " split splitlines startswith strip update upper values zfill bit_length isascii removeprefix removesuffix"
    " add discard appendleft popleft __init__".split()
)
BARRED = set(
    "type typing typing_extensions enum Enum IntEnum StrEnum Flag IntFlag Generic Protocol ABC ABCMeta namedtuple"
    " NamedTuple TypedDict TYPE_CHECKING abstractmethod dataclass overload contextmanager register mro elements open input"
    " law version_info with_traceback add_note".split()
)
NOT_USED = (
    ast.AsyncFunctionDef, ast.Await, ast.Global, ast.Lambda, ast.With, ast.Yield, ast.YieldFrom, ast.GeneratorExp, ast.Div,
)


def names_of_targets(node):
    return [part.id for part in ast.walk(node) if isinstance(part, ast.Name) and isinstance(part.ctx, ast.Store)]


def parameters_of(function):
    told = function.args
    return [*told.posonlyargs, *told.args, *told.kwonlyargs]


class LanguageTest(unittest.TestCase):
    @classmethod
    def setUpClass(cls):
        cls.texts = {path: path.read_text("utf-8") for path in FILES}
        cls.trees = {path: ast.parse(text) for path, text in cls.texts.items()}
        cls.methods = {
            part.name
            for tree in cls.trees.values()
            for node in ast.walk(tree)
            if isinstance(node, ast.ClassDef)
            for part in node.body
            if isinstance(part, ast.FunctionDef)
        }

    def nodes(self, *kinds):
        for path, tree in self.trees.items():
            for node in ast.walk(tree):
                if isinstance(node, kinds):
                    yield path.name, node

    def test_files(self):
        """L1, L14"""
        self.assertIn(ROOT / "__init__.py", FILES)
        for path in ROOT.rglob("*"):
            if "__pycache__" not in path.parts and not path.is_dir():
                self.assertRegex(path.name, r"\A[a-z0-9_]+\.py\Z")
        for path, text in self.texts.items():
            self.assertRegex(text, r"\A[ -~\n]*\Z", path.name)

    def test_sizes(self):
        """L10"""
        for path, text in self.texts.items():
            lines = text.splitlines()
            self.assertLessEqual(len(lines), 399, path.name)
            for number, line in enumerate(lines, start=1):
                self.assertLessEqual(len(line), 120, f"{path.name}:{number}")
        for name, node in self.nodes(ast.FunctionDef):
            self.assertLessEqual(node.end_lineno - node.lineno + 1, 40, f"{name}: {node.name}")

    def test_imports(self):
        """L2, L16"""
        self.assertEqual(list(self.nodes(ast.Import)), [])
        for name, node in self.nodes(ast.ImportFrom):
            for alias in node.names:
                self.assertIsNone(alias.asname, name)
                if node.module in LIBRARY:
                    self.assertIn(alias.name, LIBRARY[node.module])
                    continue
                path = ROOT / (node.module.removeprefix("sixdot.") + ".py")
                self.assertIn(path, self.trees)
                defined = [part.name for part in self.trees[path].body if hasattr(part, "name")]
                defined.extend(names_of_targets(ast.Module(self.trees[path].body, [])))
                self.assertIn(alias.name, defined, name)

    def test_imports_go_one_way(self):
        """L16"""
        modules = {
            path.stem: [
                node.module.removeprefix("sixdot.")
                for node in tree.body
                if isinstance(node, ast.ImportFrom) and node.module not in LIBRARY
            ]
            for path, tree in self.trees.items()
        }
        while modules:
            free = [name for name, needed in modules.items() if not any(other in modules for other in needed)]
            self.assertTrue(free, f"imports in a circle: {sorted(modules)}")
            modules = {name: needed for name, needed in modules.items() if name not in free}

    def test_statements(self):
        """L3, L4, L6, L7: kinds that the package has no use for, or may not use"""
        self.assertEqual([(name, node.lineno) for name, node in self.nodes(*NOT_USED)], [])
        for name, node in self.nodes(ast.FunctionDef, ast.ClassDef):
            self.assertEqual(node.decorator_list, [], f"{name}: {node.name}")

    def test_names(self):
        """L8, L12, L15, L17"""
        barred = set(dir(builtins)) | BARRED
        for name, node in self.nodes(ast.FunctionDef):
            given = [part.arg for part in parameters_of(node)] + names_of_targets(node)
            if node.name not in self.methods:
                given.append(node.name)
            self.assertEqual(barred.intersection(given), set(), f"{name}: {node.name}")
        for name, node in self.nodes(ast.Name):
            if isinstance(node.ctx, ast.Load) and hasattr(builtins, node.id):
                self.assertIn(node.id, BUILTINS, f"{name}:{node.lineno}")

    def test_names_of_classes_and_imports(self):
        """L15: they are given to nothing else in their file"""
        for path, tree in self.trees.items():
            told = [alias.name for node in tree.body if isinstance(node, ast.ImportFrom) for alias in node.names]
            told.extend(node.name for node in tree.body if isinstance(node, ast.ClassDef))
            bound = told + [node.name for node in tree.body if isinstance(node, ast.FunctionDef)]
            bound.extend(names_of_targets(ast.Module([node for node in tree.body if isinstance(node, ast.Assign)], [])))
            self.assertEqual(len(set(bound)), len(bound), path.name)
            for node in ast.walk(tree):
                if isinstance(node, ast.FunctionDef):
                    given = [part.arg for part in parameters_of(node)] + names_of_targets(node)
                    self.assertEqual(set(told).intersection(given), set(), f"{path.name}: {node.name}")

    def test_attributes(self):
        """L18, L26: no name is a method and an attribute in one class, and none has a name that is not free"""
        for name, node in self.nodes(ast.ClassDef):
            methods = {part.name for part in node.body if isinstance(part, ast.FunctionDef)}
            attributes = {
                part.attr for part in ast.walk(node)
                if isinstance(part, ast.Attribute) and isinstance(part.ctx, ast.Store) and ast.unparse(part.value) == "self"
            }
            self.assertEqual(methods & attributes, set(), f"{name}: {node.name}")
            taken = {word for value in ("", 0, [], {}, (), b"", {0}) for word in dir(value)}
            self.assertEqual((methods - {"__init__"}) & taken, set(), f"{name}: {node.name}")
            self.assertEqual(attributes & taken, set(), f"{name}: {node.name}")

    def test_words(self):
        """L17, L27"""
        for name, node in self.nodes(ast.Constant):
            where = f"{name}:{node.lineno}"
            self.assertNotIsInstance(node.value, (float, complex), where)
            if isinstance(node.value, str):
                self.assertNotIn("%", node.value, where)
        for path, text in self.texts.items():
            bare = re.sub(r'"""(?:.|\n)*?"""|#.*', "", text)
            self.assertEqual(BARRED.intersection(re.findall(r"\w+", bare)), set(), path.name)

    def test_methods(self):
        """L5, L25"""
        for name, node in self.nodes(ast.Call):
            if isinstance(node.func, ast.Attribute):
                self.assertIn(node.func.attr, METHODS | self.methods, f"{name}:{node.lineno}")
        for method in self.methods:
            self.assertFalse(method.startswith("__") and method != "__init__", method)

    def test_sets(self):
        """L24: a set is written only where it is measured, sorted or asked, or kept by its function"""
        for path, tree in self.trees.items():
            for node in ast.walk(tree):
                for part in ast.iter_child_nodes(node):
                    if isinstance(part, (ast.Set, ast.SetComp)) or (
                        isinstance(part, ast.Call) and isinstance(part.func, ast.Name) and part.func.id == "set"
                    ):
                        asked = isinstance(node, (ast.Compare, ast.Assign)) or (
                            isinstance(node, ast.Call) and isinstance(node.func, ast.Name)
                            and node.func.id in ("len", "sorted")
                        )
                        self.assertTrue(asked, f"{path.name}:{part.lineno}")


if __name__ == "__main__":
    unittest.main()
