"""The form of the code, as far as it is plainly seen: a part of each rule of LANGUAGE.md named below."""

import ast
import builtins
import re
import unittest
import warnings
from pathlib import Path

PACKAGE = Path(__file__).resolve().parent.parent / "votemargins"

LIBRARY = {
    "heapq": "heappush heappop heapify heapreplace heappushpop",
    "math": "gcd lcm isqrt comb perm factorial",
    "itertools": "product combinations permutations chain accumulate pairwise islice zip_longest",
    "collections": "defaultdict deque",
}

BUILTINS = (
    "len range enumerate zip min max sum abs sorted reversed int str bool bytes list tuple dict set frozenset "
    "isinstance ord repr any all divmod pow getattr hasattr setattr iter next map type super object "
    "property staticmethod classmethod "
    "Exception ValueError TypeError KeyError IndexError LookupError ZeroDivisionError ArithmeticError "
    "OverflowError RuntimeError NotImplementedError AttributeError StopIteration NotImplemented"
).split()

METHODS = (
    "append clear copy count endswith extend find get index insert isalnum isalpha isdigit islower isspace "
    "isupper items join keys ljust lower lstrip partition pop remove replace reverse rfind rjust rpartition "
    "rsplit rstrip setdefault split splitlines startswith strip update upper values zfill bit_length title "
    "capitalize swapcase casefold center expandtabs removeprefix removesuffix rindex isascii isdecimal "
    "isnumeric istitle isidentifier isprintable translate sort add discard appendleft popleft extendleft "
    "rotate from_iterable maketrans format"
).split()

SPECIAL_METHODS = "__init__ __eq__ __repr__ __str__ __len__ __enter__ __exit__ __call__ __iter__".split()

TAKE_LISTS = ("any", "all", "min", "max", "sum", "sorted")

BARRED = (
    "mro elements open input law version_info with_traceback add_note _cold _tuplegetter _outside _record "
    "_written_out _member_names"
).split()

NOT_ALLOWED = (
    ast.AsyncFunctionDef, ast.AsyncFor, ast.AsyncWith, ast.Await, ast.Div, ast.MatMult, ast.TryStar,
)


class Form(unittest.TestCase):
    def setUp(self):
        self.files = sorted(PACKAGE.rglob("*.py"))
        self.texts = {path: path.read_bytes() for path in self.files}
        self.trees = {path: ast.parse(text) for path, text in self.texts.items()}

    def nodes(self, *kinds):
        for path, tree in self.trees.items():
            for node in ast.walk(tree):
                if isinstance(node, kinds):
                    yield path.name, node

    def own_names(self, kind):
        return {node.name for _, node in self.nodes(kind)}

    def test_the_folder(self):
        """L1, L14."""
        for path in PACKAGE.rglob("*"):
            if "__pycache__" in path.parts:
                continue
            self.assertFalse(path.is_symlink(), path)
            if path.is_dir():
                self.assertTrue((path / "__init__.py").is_file(), path)
            else:
                self.assertRegex(path.name, r"^([a-z][a-z0-9_]*|__init__|__main__)\.py$")
                if not path.stem.startswith("__"):
                    self.assertFalse(hasattr(builtins, path.stem), path)
        self.assertTrue((PACKAGE / "__init__.py").is_file())
        self.assertLessEqual(len(self.files), 100)

    def test_characters(self):
        """L12, L14, L27."""
        for path, text in self.texts.items():
            self.assertIsNone(re.search(rb"[^ -~\n]", text), path)
            self.assertIsNone(re.search(rb"_wall\b|_WallAttr", text), path)
        for file, node in self.nodes(ast.Constant):
            if isinstance(node.value, (str, bytes)):
                self.assertNotIn("%", str(node.value), file)

    def test_sizes(self):
        """L10."""
        for path, text in self.texts.items():
            lines = text.decode().split("\n")
            self.assertLessEqual(len(lines) - 1, 399, path)
            self.assertLessEqual(max(len(line) for line in lines), 120, path)
        for file, node in self.nodes(ast.FunctionDef):
            self.assertLessEqual(node.end_lineno - node.lineno + 1, 40, (file, node.name))

    def test_no_warnings(self):
        """L27."""
        with warnings.catch_warnings():
            warnings.simplefilter("error")
            for path, text in self.texts.items():
                compile(text, str(path), "exec", dont_inherit=True)

    def test_imports(self):
        """L2, L16."""
        for file, node in self.nodes(ast.Import):
            self.fail((file, node.lineno))
        for path, tree in self.trees.items():
            for node in ast.walk(tree):
                if isinstance(node, ast.ImportFrom):
                    self.assertIn(node, tree.body, path)
                    self.assertEqual(node.level, 0, path)
                    names = [told.name for told in node.names]
                    if node.module in LIBRARY:
                        self.assertTrue(set(names) <= set(LIBRARY[node.module].split()), path)
                        self.assertEqual([told.asname for told in node.names], [None] * len(names))
                    else:
                        self.assertTrue(set(names) <= self.defined_in(node.module), (path, names))

    def defined_in(self, module):
        words = module.split(".")
        self.assertEqual(words[0], PACKAGE.name)
        tree = self.trees[PACKAGE.joinpath(*words[1:]).with_suffix(".py")]
        names = {node.name for node in tree.body if isinstance(node, (ast.FunctionDef, ast.ClassDef))}
        for node in tree.body:
            if isinstance(node, ast.Assign):
                names |= {target.id for target in node.targets}
        return names

    def test_no_two_files_import_each_other(self):
        """L16."""
        taken = {}
        for path, tree in self.trees.items():
            name = ".".join((PACKAGE.name,) + path.relative_to(PACKAGE).with_suffix("").parts)
            name = name.removesuffix(".__init__")
            taken[name] = {PACKAGE.name} - {name}
            for node in tree.body:
                if isinstance(node, ast.ImportFrom) and node.module not in LIBRARY:
                    taken[name].add(node.module)
        for name in taken:
            reached, waiting = set(), list(taken[name])
            while waiting:
                other = waiting.pop()
                if other not in reached:
                    reached.add(other)
                    waiting.extend(taken[other])
            self.assertNotIn(name, reached)

    def test_module_level(self):
        """L3, L5, L15."""
        for path, tree in self.trees.items():
            bound = []
            for at, node in enumerate(tree.body):
                if isinstance(node, (ast.FunctionDef, ast.ClassDef)):
                    bound.append(node.name)
                elif isinstance(node, ast.ImportFrom):
                    bound.extend(told.asname or told.name for told in node.names)
                elif isinstance(node, ast.Assign):
                    self.assertEqual([type(target) for target in node.targets], [ast.Name], path)
                    bound.append(node.targets[0].id)
                    calls = [part for part in ast.walk(node.value) if isinstance(part, ast.Call)]
                    self.assertEqual(calls, [], path)
                else:
                    self.assertEqual(at, 0, path)
                    self.assertIsInstance(node.value, ast.Constant, path)
            self.assertEqual(len(bound), len(set(bound)), path)

    def test_what_is_not_in_the_language(self):
        """L4, L6, L7."""
        for file, node in self.nodes(*NOT_ALLOWED):
            self.fail((file, node))
        for file, node in self.nodes(ast.Constant):
            self.assertNotIn(type(node.value), (float, complex), file)
        for file, node in self.nodes(ast.FunctionDef, ast.ClassDef):
            for decorator in node.decorator_list:
                self.assertIsInstance(node, ast.FunctionDef, file)
                word = ast.unparse(decorator)
                self.assertRegex(word, r"^(property|staticmethod|classmethod|\w+\.setter)$")

    def test_names(self):
        """L8, L12, L15, L17."""
        for file, node in self.nodes(ast.Name):
            if hasattr(builtins, node.id):
                self.assertIn(node.id, BUILTINS, (file, node.lineno))
                self.assertIsInstance(node.ctx, ast.Load, (file, node.lineno))
        for file, node in self.nodes(ast.arg):
            self.assertFalse(hasattr(builtins, node.arg), (file, node.lineno))
        for file, node in self.nodes(ast.FunctionDef):
            if node.name.startswith("__"):
                self.assertIn(node.name, SPECIAL_METHODS, file)
        found = [node.id for _, node in self.nodes(ast.Name)]
        found += [node.arg for _, node in self.nodes(ast.arg)]
        found += [node.attr for _, node in self.nodes(ast.Attribute)]
        found += [node.name for _, node in self.nodes(ast.FunctionDef, ast.ClassDef)]
        for name in found:
            self.assertNotIn(name, BARRED)

    def test_names_of_imports_are_not_used_again(self):
        """L15."""
        for path, tree in self.trees.items():
            taken = {node.name for node in tree.body if isinstance(node, ast.ClassDef)}
            for node in tree.body:
                if isinstance(node, ast.ImportFrom):
                    taken |= {told.asname or told.name for told in node.names}
            for node in ast.walk(tree):
                if isinstance(node, ast.arg):
                    self.assertNotIn(node.arg, taken, path)
                if isinstance(node, ast.Name) and isinstance(node.ctx, ast.Store):
                    self.assertNotIn(node.id, taken, path)

    def test_calls(self):
        """L7, L25."""
        own = self.own_names(ast.FunctionDef)
        for file, node in self.nodes(ast.Call):
            if isinstance(node.func, ast.Attribute):
                self.assertIn(node.func.attr, set(METHODS) | own, (file, node.lineno))
            # Game has an __eq__, so these take lists.
            if isinstance(node.func, ast.Name) and node.func.id in TAKE_LISTS:
                for argument in node.args:
                    self.assertNotIsInstance(argument, ast.GeneratorExp, (file, node.lineno))

    def test_handlers_and_raises(self):
        """L19, and [3]: VoteError is never raised itself."""
        for file, node in self.nodes(ast.ExceptHandler):
            self.assertIsNotNone(node.type, file)
        errors = self.trees[PACKAGE / "errors.py"]
        classes = {node.name for node in errors.body if isinstance(node, ast.ClassDef)}
        for file, node in self.nodes(ast.Raise):
            if node.exc is not None:
                self.assertIsInstance(node.exc, ast.Call, (file, node.lineno))
                self.assertIn(node.exc.func.id, classes - {"VoteError"}, (file, node.lineno))

    def test_docstrings(self):
        """Each file says of which point it is."""
        for path, tree in self.trees.items():
            self.assertTrue(ast.get_docstring(tree), path)


if __name__ == "__main__":
    unittest.main()
