"""Checks those rules of the language that can be read off the text of the package without much ado.

Some checks are narrower than the rules (no sets, no generators, no divisions): the package did without so far.
"""
import ast
import builtins
import pathlib
import re
import unittest
import warnings

import roughroads

FOLDER = pathlib.Path(roughroads.__file__).parent
FILES = {path.stem: path.read_bytes().decode("ascii") for path in sorted(FOLDER.glob("*.py"))}
TREES = {name: ast.parse(text) for name, text in FILES.items()}

LIBRARY = {"heapq": "heappush heappop heapify heapreplace heappushpop", "math": "gcd lcm isqrt comb perm factorial",
           "itertools": "product combinations permutations chain accumulate pairwise islice zip_longest",
           "collections": "defaultdict deque"}
BUILTINS = """len range enumerate zip min max sum abs sorted reversed int str bool list tuple dict set isinstance ord
    repr any all divmod map iter next super Exception ValueError TypeError KeyError IndexError LookupError
    ZeroDivisionError ArithmeticError OverflowError RuntimeError NotImplementedError AttributeError StopIteration
    NotImplemented""".split()
METHODS = """append clear copy count endswith extend find get index insert isalnum isalpha isdigit islower isspace
    isupper items join keys ljust lower lstrip partition pop remove replace reverse rfind rjust rpartition rsplit
    rstrip setdefault split splitlines startswith strip update upper values zfill bit_length __init__""".split()
DOUBLE = """__init__ __eq__ __repr__ __str__ __len__ __enter__ __exit__ __call__ __iter__""".split()
BARRED_WORDS = """type typing typing_extensions enum Enum IntEnum StrEnum Flag IntFlag Generic Protocol ABC ABCMeta
    namedtuple NamedTuple TypedDict TYPE_CHECKING abstractmethod dataclass overload contextmanager""".split()
BARRED_NAMES = """register mro elements open input law version_info with_traceback add_note""".split()
BARRED_ATTRIBUTES = """items keys values pop update append clear extend insert remove reverse setdefault sort args
    encode decode hex fromhex format""".split()
NODES = (ast.AsyncFunctionDef, ast.AsyncFor, ast.AsyncWith, ast.Await, ast.Global, ast.TryStar, ast.SetComp, ast.Set,
         ast.GeneratorExp, ast.Yield, ast.YieldFrom, ast.Div)


def nodes(kind):
    """Return the nodes of a kind in the whole package, each with its file's name."""
    return [(name, node) for name, tree in TREES.items() for node in ast.walk(tree) if isinstance(node, kind)]


def bound_names(tree):
    """Return all names that a file binds in any place but by imports, with the parameters."""
    names = [node.id for node in ast.walk(tree) if isinstance(node, ast.Name) and isinstance(node.ctx, ast.Store)]
    names += [node.arg for node in ast.walk(tree) if isinstance(node, ast.arg)]
    names += [node.name for node in ast.walk(tree) if isinstance(node, (ast.FunctionDef, ast.ClassDef))]
    return names


def methods(tree):
    """Return the names of the methods of a file."""
    return [node.name for kind in ast.walk(tree) if isinstance(kind, ast.ClassDef)
            for node in kind.body if isinstance(node, ast.FunctionDef)]


def inner_names(tree):
    """Return the names that a file binds below module level, but those of methods, which no name in it finds."""
    names = bound_names(tree)
    for name in top_names(tree) + methods(tree):
        names.remove(name)
    return names


def top_names(tree):
    """Return the names that a file binds at module level, but by imports."""
    names = [node.name for node in tree.body if isinstance(node, (ast.FunctionDef, ast.ClassDef))]
    return names + [target.id for node in tree.body if isinstance(node, ast.Assign) for target in node.targets]


def imports(tree):
    return [(node.module, alias.name) for node in tree.body if isinstance(node, ast.ImportFrom)
            for alias in node.names]


class LanguageTest(unittest.TestCase):
    def test_files(self):
        for path in FOLDER.iterdir():
            self.assertTrue(path.name == "__pycache__" or re.fullmatch(r"[a-z0-9_]+\.py", path.name), path.name)
        self.assertTrue(set(FILES).isdisjoint(dir(builtins)))

    def test_characters_and_sizes(self):
        for name, text in FILES.items():
            self.assertTrue(all(" " <= sign <= "~" or sign == "\n" for sign in text), name)
            self.assertLess(len(text.splitlines()), 400, name)
            self.assertLessEqual(max(len(line) for line in text.splitlines()), 120, name)
        for name, node in nodes(ast.FunctionDef):
            self.assertLessEqual(node.end_lineno - node.lineno + 1, 40, (name, node.name))

    def test_no_warnings(self):
        with warnings.catch_warnings():
            warnings.simplefilter("error")
            for name, text in FILES.items():
                compile(text, name, "exec")

    def test_imports(self):
        for name, tree in TREES.items():
            for module, word in imports(tree):
                if module in LIBRARY:
                    self.assertIn(word, LIBRARY[module].split(), name)
                else:
                    self.assertTrue(module.startswith("roughroads."), (name, module))
                    self.assertIn(word, top_names(TREES[module[len("roughroads."):]]), (name, word))
            inner = [node for node in ast.walk(tree) if isinstance(node, (ast.Import, ast.ImportFrom))]
            self.assertEqual([node for node in inner if node not in tree.body or isinstance(node, ast.Import)], [])

    def test_no_two_files_import_each_other(self):
        left = {name: {module.split(".")[-1] for module, _ in imports(tree) if module not in LIBRARY}
                for name, tree in TREES.items()}
        while left:
            free = [name for name in left if not left[name] & set(left)]
            self.assertTrue(free, left)
            left = {name: left[name] for name in left if name not in free}

    def test_module_level(self):
        for name, tree in TREES.items():
            for node in tree.body:
                plain = isinstance(node, ast.Expr) and isinstance(node.value, ast.Constant)
                kinds = (ast.ImportFrom, ast.FunctionDef, ast.ClassDef, ast.Assign)
                self.assertTrue(plain or isinstance(node, kinds), (name, node.lineno))
                if isinstance(node, ast.Assign):
                    self.assertEqual([type(target) for target in node.targets], [ast.Name], (name, node.lineno))
                    ast.literal_eval(node.value)
            every = top_names(tree) + [word for _, word in imports(tree)]
            self.assertEqual(len(every), len(set(every)), name)

    def test_functions_and_classes(self):
        for name, node in nodes((ast.FunctionDef, ast.ClassDef)):
            self.assertEqual(node.decorator_list, [], (name, node.name))
            self.assertTrue(not node.name.startswith("__") or node.name in DOUBLE, (name, node.name))

    def test_statements_and_expressions(self):
        self.assertEqual([(name, node.lineno) for name, node in nodes(NODES)], [])
        for name, node in nodes(ast.Constant):
            self.assertNotIsInstance(node.value, (float, complex, bytes), (name, node.lineno))

    def test_classes(self):
        stored = {node.attr for _, node in nodes(ast.Attribute) if isinstance(node.ctx, ast.Store)}
        self.assertEqual(stored & set(BARRED_ATTRIBUTES), set())
        for name, tree in TREES.items():
            every = methods(tree)
            kinds = [node for node in tree.body if isinstance(node, ast.ClassDef)]
            self.assertEqual(sum(isinstance(node, ast.ClassDef) for node in ast.walk(tree)), len(kinds), name)
            for kind in kinds:
                own = [node.name for node in kind.body if isinstance(node, ast.FunctionDef)]
                self.assertEqual(len(own), len(set(own)), kind.name)
                self.assertEqual({node.attr for node in ast.walk(kind) if isinstance(node, ast.Attribute)
                                  and isinstance(node.ctx, ast.Store)} & set(own), set(), kind.name)
            self.assertEqual(set(every) & set(BARRED_NAMES), set(), name)
        for name, node in nodes(ast.Attribute):
            if isinstance(node.ctx, ast.Load) and node.attr.startswith("_") and not node.attr.startswith("__"):
                self.assertIn(node.attr, [*stored, *[word for tree in TREES.values() for word in methods(tree)]], name)

    def test_equality(self):
        # The one form of __eq__ beside which all other rules stay as they are.
        for name, node in nodes(ast.FunctionDef):
            if node.name == "__eq__":
                self.assertEqual([type(row) for row in node.body], [ast.Return], name)
                first, *rest = node.body[0].value.values
                self.assertRegex(ast.unparse(first), r"^isinstance\(other, [A-Z][a-z]+\)$")
                for part in rest:
                    self.assertRegex(ast.unparse(part), r"^self\.(\w+) == other\.\1$")

    def test_calls(self):
        for name, node in nodes(ast.Call):
            stars = [part for part in node.args if isinstance(part, ast.Starred)]
            self.assertEqual([part for part in stars if not isinstance(part.value, ast.Name)], [], name)
            kinds = [word.arg for word in node.keywords]
            self.assertTrue(not kinds or (kinds == ["key"] and node.func.id in ("sorted", "min", "max")), name)

    def test_raised_errors_are_made_on_the_spot(self):
        for name, node in nodes(ast.Raise):
            self.assertIsInstance(node.exc, ast.Call, name)
            self.assertIn(node.exc.func.id, top_names(TREES["errors"]), name)

    def test_names(self):
        for name, tree in TREES.items():
            taken = [word for _, word in imports(tree)]
            taken += [node.name for node in tree.body if isinstance(node, ast.ClassDef)]
            for word in bound_names(tree):
                self.assertTrue(word in DOUBLE or re.fullmatch(r"_?[A-Za-z][A-Za-z0-9_]*|_", word), (name, word))
                self.assertNotIn(word, dir(builtins), name)
                self.assertNotIn(word, BARRED_NAMES, name)
            self.assertEqual(set(inner_names(tree)) & set(taken), set(), name)

    def test_builtins_and_methods(self):
        for name, node in nodes(ast.Name):
            if isinstance(node.ctx, ast.Load) and node.id in dir(builtins):
                self.assertIn(node.id, BUILTINS, (name, node.lineno))
        own = {node.name for _, node in nodes(ast.FunctionDef)}
        for name, node in nodes(ast.Call):
            if isinstance(node.func, ast.Attribute):
                self.assertIn(node.func.attr, [*METHODS, *own], (name, node.lineno))
        for name, node in nodes(ast.Attribute):
            self.assertNotIn(node.attr, BARRED_NAMES, (name, node.lineno))

    def test_words_and_strings(self):
        for name, node in nodes((ast.Name, ast.Attribute, ast.arg)):
            word = getattr(node, "id", None) or getattr(node, "attr", None) or node.arg
            self.assertNotIn(word, BARRED_WORDS, (name, node.lineno))
        for name, node in nodes(ast.Constant):
            if isinstance(node.value, str):
                self.assertNotIn("%", node.value, (name, node.lineno))
        for name, text in FILES.items():
            self.assertNotIn("\\", text, name)

    def test_is_stands_with_three_words_only(self):
        for name, node in nodes(ast.Compare):
            for sign, right in zip(node.ops, node.comparators):
                if isinstance(sign, (ast.Is, ast.IsNot)):
                    self.assertIn(getattr(right, "value", 0), (None, True, False), (name, node.lineno))


if __name__ == "__main__":
    unittest.main()
