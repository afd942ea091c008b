"""Rules of LANGUAGE.md that can be read off the text of the package; each test names its rules."""

import ast
import builtins
import pathlib
import re
import unittest

PACKAGE = pathlib.Path(__file__).resolve().parent.parent / "timesagain"
FILES = sorted(PACKAGE.glob("*.py"))
TEXTS = {path.stem: path.read_text(encoding="utf-8") for path in FILES}
TREES = {name: ast.parse(text) for name, text in TEXTS.items()}

LIBRARY = {
    "heapq": ["heappush", "heappop", "heapify", "heapreplace", "heappushpop"],
    "math": ["gcd", "lcm", "isqrt", "comb", "perm", "factorial"],
    "itertools": [
        "product", "combinations", "permutations", "chain", "accumulate", "pairwise", "islice", "zip_longest",
    ],
    "collections": ["defaultdict", "deque"],
}
BUILTINS = set(
    "len range enumerate zip min max sum abs sorted reversed int str bool bytes list tuple dict set frozenset "
    "isinstance ord repr any all divmod pow map iter next getattr hasattr setattr super type property staticmethod "
    "classmethod object Exception ValueError TypeError KeyError IndexError LookupError ZeroDivisionError "
    "ArithmeticError OverflowError RuntimeError NotImplementedError AttributeError StopIteration NotImplemented".split()
)
SPECIAL = set(
    "init eq repr str len enter exit call iter lt le gt ge ne add sub mul floordiv mod pow and or xor lshift rshift "
    "neg pos invert abs bool contains getitem setitem".split()
)
BARRED_NAMES = set(
    "register mro elements open input law version_info with_traceback add_note attrgetter breakpoint builtins compile "
    "copyright credits delattr dir eval exec exit gc globals help id importlib license locals methodcaller os quit "
    "vars sys".split()
)
BARRED_WORDS = set(
    "typing typing_extensions enum Enum IntEnum StrEnum Flag IntFlag Generic Protocol ABC ABCMeta namedtuple "
    "NamedTuple TypedDict TYPE_CHECKING abstractmethod".split()
)
DECORATORS = ("property", "staticmethod", "classmethod")
BARRED_STATEMENTS = (ast.AsyncFunctionDef, ast.AsyncFor, ast.AsyncWith, ast.Await, ast.Import, ast.TryStar)


def parts(*kinds):
    """All parts of the package of these kinds, each with the name of its file."""
    return [(name, part) for name, tree in TREES.items() for part in ast.walk(tree) if isinstance(part, kinds)]


def bound_names():
    """Every name that the package gives a meaning."""
    found = []
    for name, part in parts(ast.AST):
        if isinstance(part, (ast.FunctionDef, ast.ClassDef)):
            found.append((name, part.name))
        elif isinstance(part, ast.arg):
            found.append((name, part.arg))
        elif isinstance(part, ast.Name) and not isinstance(part.ctx, ast.Load):
            found.append((name, part.id))
        elif isinstance(part, ast.alias):
            found.append((name, part.asname or part.name))
        elif isinstance(part, ast.ExceptHandler) and part.name:
            found.append((name, part.name))
    return found


def methods():
    return [
        (name, method) for name, kind in parts(ast.ClassDef)
        for method in kind.body if isinstance(method, ast.FunctionDef)
    ]


def own_imports(name):
    imports = [part for part in TREES[name].body if isinstance(part, ast.ImportFrom)]
    return [part for part in imports if part.module.startswith("timesagain")]


class Files(unittest.TestCase):
    def test_only_plain_files(self):
        """L1, L14."""
        for path in PACKAGE.iterdir():
            if path.name != "__pycache__":
                self.assertRegex(path.name, r"^(__init__|__main__|[a-z][a-z0-9_]*)\.py$")
        self.assertIn("__init__", TEXTS)

    def test_characters(self):
        """L10, L14."""
        for name, text in TEXTS.items():
            self.assertRegex(text, r"\A[ -~\n]*\Z", name)

    def test_sizes(self):
        """L10."""
        for name, text in TEXTS.items():
            self.assertLessEqual(len(text.splitlines()), 399, name)
            self.assertLessEqual(max(len(line) for line in text.splitlines()), 120, name)
        for name, part in parts(ast.FunctionDef):
            self.assertLessEqual(part.end_lineno - part.lineno + 1, 40, (name, part.name))

    def test_module_level(self):
        """L3: nothing is run but docstrings, imports, definitions and plain assignments."""
        allowed = (ast.ImportFrom, ast.FunctionDef, ast.ClassDef, ast.Assign)
        for name, tree in TREES.items():
            for at, part in enumerate(tree.body):
                docstring = at == 0 and isinstance(part, ast.Expr)
                self.assertTrue(docstring or isinstance(part, allowed), (name, part.lineno))
                if isinstance(part, ast.Assign):
                    self.assertFalse([step for step in ast.walk(part.value) if isinstance(step, ast.Call)], name)


class Imports(unittest.TestCase):
    def test_what_is_imported(self):
        """L2, L16: each name from the very file that defines it."""
        for name, part in parts(ast.ImportFrom):
            self.assertEqual(part.level, 0, name)
            names = [alias.name for alias in part.names]
            if part.module.startswith("timesagain."):
                there = TREES[part.module.partition(".")[2]].body
                defined = [step.name for step in there if isinstance(step, (ast.FunctionDef, ast.ClassDef))]
                defined += [step.targets[0].id for step in there if isinstance(step, ast.Assign)]
                self.assertLessEqual(set(names), set(defined), name)
            else:
                self.assertLessEqual(set(names), set(LIBRARY[part.module]), name)

    def test_at_the_top(self):
        """L2."""
        for name, tree in TREES.items():
            told = [isinstance(part, ast.ImportFrom) for part in tree.body if not isinstance(part, ast.Expr)]
            self.assertEqual(told, sorted(told, reverse=True), name)

    def test_no_rings(self):
        """L16."""
        above = {name: {part.module.partition(".")[2] for part in own_imports(name)} for name in TREES}
        left = set(TREES)
        while left:
            free = {name for name in left if not above[name] & left}
            self.assertTrue(free, sorted(left))
            left -= free


class Names(unittest.TestCase):
    def test_builtins(self):
        """L8: which are used."""
        used = [(name, part.id) for name, part in parts(ast.Name) if isinstance(part.ctx, ast.Load)]
        for name, word in used:
            if hasattr(builtins, word):
                self.assertIn(word, BUILTINS, name)

    def test_no_builtin_gets_another_meaning(self):
        """L8, L15, L17."""
        method_names = [method.name for _, method in methods()]
        for name, word in bound_names():
            if word not in method_names:
                self.assertFalse(hasattr(builtins, word), (name, word))
            self.assertNotIn(word, BARRED_NAMES, name)
            self.assertRegex(word, r"^(_?[A-Za-z][A-Za-z0-9_]*|_|__[a-z]+__)$", name)

    def test_imports_and_classes_keep_their_names(self):
        """L15: no parameter, variable or nested function has the name of a class or an import of its file."""
        for name, tree in TREES.items():
            taken = {part.name for part in tree.body if isinstance(part, ast.ClassDef)}
            taken |= {alias.name for part in tree.body if isinstance(part, ast.ImportFrom) for alias in part.names}
            for part in ast.walk(tree):
                if isinstance(part, ast.arg):
                    self.assertNotIn(part.arg, taken, name)
                if isinstance(part, ast.Name) and not isinstance(part.ctx, ast.Load):
                    self.assertNotIn(part.id, taken, name)

    def test_methods_and_attributes(self):
        """L18, L26: no name is a method and an attribute; those of builtin values are no attributes."""
        assigned = {part.attr for _, part in parts(ast.Attribute) if not isinstance(part.ctx, ast.Load)}
        self.assertFalse(assigned & {method.name for _, method in methods()})
        for kind in (str, int, list, dict, set, bytes):
            allowed = {
                "count", "index", "title", "find", "get", "join", "lower", "upper", "split", "strip", "copy", "add",
            }
            self.assertFalse((assigned & set(dir(kind))) - allowed)

    def test_double_underscores(self):
        """L5, L8."""
        for name, method in methods():
            if method.name.startswith("__"):
                self.assertIn(method.name.strip("_"), SPECIAL | {"i" + word for word in SPECIAL}, name)

    def test_words(self):
        """L17."""
        for name, text in TEXTS.items():
            self.assertFalse(BARRED_WORDS & set(re.findall(r"\w+", text)), name)
            for word in ("dataclass", "overload", "contextmanager", "_wall", "_WallAttr"):
                self.assertNotIn(word, text, name)


class Statements(unittest.TestCase):
    def test_statements(self):
        """L2, L6."""
        self.assertFalse(parts(*BARRED_STATEMENTS))

    def test_sets_and_generator_expressions(self):
        """L7, L24: any, all, min, max, sum and sorted take lists, as papers have a truth and equality of their own."""
        for name, part in parts(ast.GeneratorExp, ast.Set, ast.SetComp):
            self.fail((name, part.lineno))

    def test_exponents(self):
        """L27: written out, from 0 to 64."""
        for name, part in parts(ast.BinOp):
            if isinstance(part.op, ast.Pow):
                self.assertIsInstance(part.right, ast.Constant, (name, part.lineno))

    def test_decorators(self):
        """L4, L5."""
        for name, part in parts(ast.FunctionDef, ast.ClassDef):
            for decorator in part.decorator_list:
                word = ast.unparse(decorator)
                self.assertTrue(word in DECORATORS or word.endswith(".setter"), (name, part.name))

    def test_numbers_and_strings(self):
        """L7, L27: no float, no division, no percent sign in a string."""
        self.assertFalse(parts(ast.Div))
        holders = parts(ast.Module, ast.ClassDef, ast.FunctionDef)
        docstrings = [ast.get_docstring(part, clean=False) for _, part in holders]
        for name, part in parts(ast.Constant):
            self.assertNotIsInstance(part.value, (float, complex), name)
            if isinstance(part.value, str) and part.value not in docstrings:
                self.assertNotIn("%", part.value, name)


if __name__ == "__main__":
    unittest.main()
