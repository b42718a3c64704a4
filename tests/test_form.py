"""Rules of the language subset that can be seen in the files of the package."""

import ast
import pathlib
import re
import unittest

PACKAGE = pathlib.Path(__file__).resolve().parent.parent / "oddcrowds"

BUILTINS = set("""len range enumerate zip min max sum abs sorted reversed int str bool list tuple dict set isinstance ord
    repr any all divmod pow iter next map Exception ValueError TypeError KeyError IndexError LookupError
    ZeroDivisionError ArithmeticError OverflowError RuntimeError NotImplementedError""".split())
ALL_BUILTINS = set(dir(__builtins__) if not isinstance(__builtins__, dict) else __builtins__)
METHODS = set("""append clear copy count endswith extend find get index insert isalnum isalpha isdigit islower isspace
    isupper items join keys ljust lower lstrip partition pop remove replace reverse rfind rjust rpartition rsplit
    rstrip setdefault split splitlines startswith strip update upper values zfill bit_length add discard
    capitalize removeprefix removesuffix rindex isascii""".split())
BARRED_WORDS = set("""typing typing_extensions enum Enum IntEnum StrEnum Flag IntFlag Generic Protocol ABC ABCMeta
    namedtuple NamedTuple TypedDict TYPE_CHECKING abstractmethod register mro elements open input law version_info
    with_traceback add_note global async eval exec""".split())
LIBRARY = {"heapq": {"heappush", "heappop", "heapify", "heapreplace", "heappushpop"},
           "math": {"gcd", "lcm", "isqrt", "comb", "perm", "factorial"},
           "itertools": {"product", "combinations", "permutations", "chain", "accumulate", "pairwise", "islice",
                         "zip_longest"},
           "collections": {"defaultdict"}}
ALLOWED_DOUBLE = {"__init__", "__eq__", "__repr__", "__str__", "__len__"}


def files():
    return sorted(PACKAGE.glob("*.py"))


def tree_of(path):
    return ast.parse(path.read_text(encoding="utf-8"))


def all_nodes():
    for path in files():
        for node in ast.walk(tree_of(path)):
            yield path.name, node


class FilesTest(unittest.TestCase):
    def test_the_folder_holds_only_files_of_the_package(self):
        for path in PACKAGE.iterdir():
            if path.name != "__pycache__":
                self.assertRegex(path.name, "^[a-z_][a-z0-9_]*[.]py$")

    def test_sizes_and_characters(self):
        for path in files():
            text = path.read_text(encoding="utf-8")
            lines = text.split("\n")
            with self.subTest(path.name):
                self.assertLessEqual(len(lines), 399)
                self.assertLessEqual(max(len(line) for line in lines), 120)
                self.assertIsNone(re.search("[^ -~\n]", text))
                self.assertIsNone(re.search(r"\\[^nt\\\"']", text))

    def test_lengths_of_functions(self):
        for file, node in all_nodes():
            if isinstance(node, ast.FunctionDef):
                with self.subTest(file, function=node.name):
                    self.assertLessEqual(node.end_lineno - node.lineno + 1, 40)

    def test_barred_words(self):
        for file, node in all_nodes():
            names = [node.id] if isinstance(node, ast.Name) else []
            names += [node.attr] if isinstance(node, ast.Attribute) else []
            names += [node.name] if isinstance(node, (ast.FunctionDef, ast.ClassDef)) else []
            names += [node.arg] if isinstance(node, ast.arg) else []
            for name in names:
                with self.subTest(file, name=name):
                    self.assertNotIn(name, BARRED_WORDS)
                    self.assertTrue(not name.startswith("__") or name in ALLOWED_DOUBLE)


class ImportsTest(unittest.TestCase):
    def test_what_is_imported(self):
        for file, node in all_nodes():
            self.assertNotIsInstance(node, ast.Import, file)
            if not isinstance(node, ast.ImportFrom):
                continue
            with self.subTest(file, module=node.module):
                self.assertEqual(node.level, 0)
                self.assertFalse(any(alias.asname or alias.name == "*" for alias in node.names))
                names = {alias.name for alias in node.names}
                if node.module in LIBRARY:
                    self.assertLessEqual(names, LIBRARY[node.module])
                    continue
                package, _, module = node.module.partition(".")
                self.assertEqual(package, "oddcrowds")
                self.assertLessEqual(names, self.defined(PACKAGE / (module + ".py")))

    def defined(self, path):
        found = set()
        for part in tree_of(path).body:
            if isinstance(part, (ast.FunctionDef, ast.ClassDef)):
                found.add(part.name)
            if isinstance(part, ast.Assign):
                found.add(part.targets[0].id)
        return found

    def test_no_two_files_import_from_each_other(self):
        imports = {}
        for path in files():
            imports[path.stem] = {node.module.partition(".")[2] for node in ast.walk(tree_of(path))
                                  if isinstance(node, ast.ImportFrom) and node.module.startswith("oddcrowds.")}
        done = set()
        while len(done) < len(imports):
            free = {file for file in imports if file not in done and imports[file] <= done}
            self.assertTrue(free, sorted(set(imports) - done))
            done |= free


class CodeTest(unittest.TestCase):
    def test_module_level(self):
        for path in files():
            earlier = []
            for k, part in enumerate(tree_of(path).body):
                with self.subTest(path.name, line=part.lineno):
                    if k == 0:
                        self.assertIsInstance(part, ast.Expr)
                        self.assertIsInstance(part.value.value, str)
                        continue
                    self.assertIsInstance(part, (ast.ImportFrom, ast.FunctionDef, ast.ClassDef, ast.Assign))
                    if isinstance(part, ast.Assign):
                        self.assertEqual(len(part.targets), 1)
                        self.assert_plain(part.value, earlier)
                    if isinstance(part, ast.FunctionDef):
                        earlier.append(part.name)

    def assert_plain(self, value, functions):
        """A plain value, or a dict of such and of functions that are defined above it, or a power."""
        if isinstance(value, ast.Dict):
            for part in value.keys + value.values:
                self.assert_plain(part, functions)
        elif isinstance(value, ast.Name):
            self.assertIn(value.id, functions)
        elif isinstance(value, ast.BinOp):
            self.assertIsInstance(value.op, ast.Pow)
            self.assertLessEqual(ast.literal_eval(value.right), 64)
            ast.literal_eval(value.left)
        else:
            ast.literal_eval(value)

    def test_builtins(self):
        for file, node in all_nodes():
            if isinstance(node, ast.Name) and node.id in ALL_BUILTINS:
                with self.subTest(file, line=node.lineno):
                    self.assertIn(node.id, BUILTINS)
                    self.assertIsInstance(node.ctx, ast.Load)
            if isinstance(node, ast.arg):
                self.assertNotIn(node.arg, ALL_BUILTINS)

    def test_methods(self):
        own = {node.name for _, node in all_nodes() if isinstance(node, ast.FunctionDef)}
        for file, node in all_nodes():
            if isinstance(node, ast.Call) and isinstance(node.func, ast.Attribute):
                with self.subTest(file, line=node.lineno):
                    self.assertIn(node.func.attr, METHODS | own)
                    if node.func.attr not in own:
                        self.assertEqual(node.keywords, [])

    def test_no_kinds_of_code_outside_of_the_subset(self):
        barred = (ast.Global, ast.AsyncFunctionDef, ast.Await, ast.Set, ast.GeneratorExp, ast.Div, ast.MatMult,
                  ast.TryStar)
        for file, node in all_nodes():
            with self.subTest(file, line=getattr(node, "lineno", 0)):
                self.assertNotIsInstance(node, barred)
                if isinstance(node, ast.Constant):
                    self.assertNotIsInstance(node.value, (float, complex))
                    self.assertFalse(isinstance(node.value, str) and chr(37) in node.value)
                if isinstance(node, ast.FunctionDef):
                    self.assertEqual(node.decorator_list, [])
                if isinstance(node, ast.Compare):
                    for operator, right in zip(node.ops, node.comparators):
                        if isinstance(operator, (ast.Is, ast.IsNot)):
                            self.assertIn(right.value, (None, True, False))

    def test_locals_do_not_hide_imports_and_classes(self):
        for path in files():
            tree = tree_of(path)
            fixed = {alias.name for part in tree.body if isinstance(part, ast.ImportFrom) for alias in part.names}
            fixed |= {part.name for part in tree.body if isinstance(part, ast.ClassDef)}
            for node in ast.walk(tree):
                name = node.arg if isinstance(node, ast.arg) else None
                if isinstance(node, ast.Name) and isinstance(node.ctx, ast.Store):
                    name = node.id
                with self.subTest(path.name, name=name):
                    self.assertNotIn(name, fixed)

    def test_no_name_is_a_method_and_an_attribute_of_one_class(self):
        for file, node in all_nodes():
            if not isinstance(node, ast.ClassDef):
                continue
            methods = [part.name for part in node.body if isinstance(part, ast.FunctionDef)]
            attributes = {part.attr for part in ast.walk(node)
                          if isinstance(part, ast.Attribute) and isinstance(part.ctx, ast.Store)}
            with self.subTest(file, name=node.name):
                self.assertEqual(len(methods), len(set(methods)))
                self.assertEqual(attributes & set(methods), set())


if __name__ == "__main__":
    unittest.main()
