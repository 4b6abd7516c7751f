"""The rules of ../shared/LANGUAGE.md that can be seen in the code without running it.

These are the plain ones (L1 to L8, L10, L12 to L17, L19 to L25, L27), some of them held more narrowly than the
document asks, as the package needs no more; the others are kept by reading.
"""

import ast
import builtins
import io
import pathlib
import re
import tokenize
import unittest

PACKAGE = pathlib.Path(__file__).resolve().parent.parent / "boxballs"

BUILTINS = set(
    "len range enumerate zip min max sum abs sorted reversed int str bool bytes list tuple dict set frozenset "
    "isinstance ord repr any all divmod Exception ValueError TypeError KeyError IndexError LookupError "
    "ZeroDivisionError ArithmeticError OverflowError RuntimeError NotImplementedError AttributeError "
    "StopIteration".split())

# The package needs no try and no sets, so the rules for these (L13, L19, L24) are kept by having none.
BARRED_NODES = (
    ast.With, ast.Match, ast.Global, ast.Nonlocal, ast.Yield, ast.YieldFrom, ast.AsyncFunctionDef, ast.Await,
    ast.GeneratorExp, ast.NamedExpr, ast.Div, ast.Import, ast.AnnAssign, ast.Pow, ast.Try, ast.Set, ast.SetComp,
)

BARRED_WORDS = re.compile(
    r"\b(type|typing|typing_extensions|enum|Enum|IntEnum|StrEnum|Flag|IntFlag|Generic|Protocol|ABC|ABCMeta"
    r"|namedtuple|NamedTuple|TypedDict|TYPE_CHECKING|abstractmethod)\b|dataclass|overload|contextmanager")

BARRED_NAMES = set(
    "register mro elements open input version_info with_traceback add_note attrgetter breakpoint builtins compile "
    "copyright credits delattr dir eval exec exit gc getattr globals hasattr help id importlib license locals "
    "methodcaller os quit setattr super vars sys".split())

METHODS = set(
    "append clear copy count endswith extend find get index insert isalnum isalpha isdigit islower isspace isupper "
    "items join keys ljust lower lstrip partition pop remove replace reverse rfind rjust rpartition rsplit rstrip "
    "setdefault split splitlines startswith strip update upper values zfill bit_length".split())

KEYWORDS = {"sorted": {"key", "reverse"}, "min": {"key", "default"}, "max": {"key", "default"},
            "sum": {"start"}, "enumerate": {"start"}, "zip": {"strict"}}

DOUBLE_UNDERSCORES = {"__init__", "__eq__", "__repr__", "__str__", "__len__"}

# What is iterated on the spot, and the calls that may do so.
VIEWS = {"zip", "enumerate", "reversed", "range", "items", "keys", "values"}
ITERATING = {"list", "tuple", "dict", "sorted", "sum", "any", "all", "enumerate", "zip", "min", "max", "join"}


def called_name(node):
    """The name or the method that a call calls, or None."""
    if not isinstance(node, ast.Call):
        return None
    return node.func.attr if isinstance(node.func, ast.Attribute) else node.func.id


def defined_in(tree):
    """The names that a file itself defines at module level."""
    told = [node.name for node in tree.body if isinstance(node, (ast.FunctionDef, ast.ClassDef))]
    return told + [target.id for node in tree.body if isinstance(node, ast.Assign) for target in node.targets]


def bound_names(tree):
    """Every name that the file binds, with its line."""
    for node in ast.walk(tree):
        if isinstance(node, ast.Name) and not isinstance(node.ctx, ast.Load):
            yield node.id, node.lineno
        elif isinstance(node, (ast.FunctionDef, ast.ClassDef)):
            yield node.name, node.lineno
        elif isinstance(node, ast.arg):
            yield node.arg, node.lineno


class Language(unittest.TestCase):

    def setUp(self):
        self.texts = {path.name: path.read_text("ascii") for path in sorted(PACKAGE.glob("*.py"))}
        self.trees = {name: ast.parse(text) for name, text in self.texts.items()}

    def test_files(self):
        self.assertIn("__init__.py", self.texts)
        for path in PACKAGE.iterdir():
            if path.name != "__pycache__":
                self.assertRegex(path.name, r"^([a-z][a-z0-9_]*|__init__|__main__)\.py$")

    def test_lines_and_characters(self):
        for name, text in self.texts.items():
            self.assertNotRegex(text, r"[^ -~\n]", name)
            self.assertIsNone(BARRED_WORDS.search(text), name)
            lines = text.splitlines()
            self.assertLessEqual(len(lines), 400, name)
            self.assertLessEqual(max(map(len, lines)), 120, name)

    def test_imports(self):
        for name, tree in self.trees.items():
            for node in ast.walk(tree):
                if isinstance(node, ast.ImportFrom):
                    self.assertIn(node, tree.body)
                    self.assertRegex(node.module, r"^boxballs\.[a-z]", name)
                    self.assertEqual(node.level, 0)
                    self.assertNotIn("*", [alias.name for alias in node.names])

    def test_imports_lead_to_the_file_that_defines_the_name(self):
        for tree in self.trees.values():
            for node in tree.body:
                if isinstance(node, ast.ImportFrom):
                    there = self.trees[node.module.removeprefix("boxballs.") + ".py"]
                    for alias in node.names:
                        self.assertIn(alias.name, defined_in(there))

    def test_imports_never_lead_back(self):
        after = {name: {node.module.removeprefix("boxballs.") + ".py" for node in tree.body
                        if isinstance(node, ast.ImportFrom)} for name, tree in self.trees.items()}
        while after:
            free = [name for name in after if not after[name] & set(after)]
            self.assertTrue(free, f"imported in a ring: {sorted(after)}")
            for name in free:
                del after[name]

    def test_calls(self):
        own = {part.name for tree in self.trees.values() for node in tree.body if isinstance(node, ast.ClassDef)
               for part in node.body if isinstance(part, ast.FunctionDef)}
        for name, tree in self.trees.items():
            for node in ast.walk(tree):
                if isinstance(node, ast.Call):
                    where = f"{name}:{node.lineno}"
                    if isinstance(node.func, ast.Attribute):
                        self.assertIn(node.func.attr, METHODS | own, where)
                        self.assertEqual(node.keywords, [], where)
                    elif node.func.id in BUILTINS:
                        keywords = {keyword.arg for keyword in node.keywords}
                        self.assertLessEqual(keywords, KEYWORDS.get(node.func.id, set()), where)

    def test_calls_pass_what_is_taken(self):
        taken = {node.name: len(node.args.args) for tree in self.trees.values() for node in tree.body
                 if isinstance(node, ast.FunctionDef)}
        for name, tree in self.trees.items():
            for node in ast.walk(tree):
                if isinstance(node, ast.Call) and isinstance(node.func, ast.Name) and node.func.id in taken:
                    self.assertEqual(len(node.args), taken[node.func.id], f"{name}:{node.lineno}")
                    self.assertEqual(node.keywords, [], f"{name}:{node.lineno}")

    def test_iterated_on_the_spot(self):
        for name, tree in self.trees.items():
            good = set()
            for node in ast.walk(tree):
                if isinstance(node, (ast.For, ast.comprehension)):
                    good.add(node.iter)
                elif called_name(node) in ITERATING:
                    good.update(node.args)
            for node in ast.walk(tree):
                if called_name(node) in VIEWS:
                    self.assertIn(node, good, f"{name}:{node.lineno}")

    def test_raised_on_the_spot(self):
        errors = [node.name for node in self.trees["errors.py"].body if isinstance(node, ast.ClassDef)]
        for name, tree in self.trees.items():
            for node in ast.walk(tree):
                if isinstance(node, ast.Raise):
                    self.assertIn(called_name(node.exc), errors, f"{name}:{node.lineno}")
                    self.assertIsNone(node.cause, f"{name}:{node.lineno}")

    def test_is_and_stars(self):
        for name, tree in self.trees.items():
            for node in ast.walk(tree):
                where = f"{name}:{getattr(node, 'lineno', '?')}"
                if isinstance(node, ast.Compare) and any(isinstance(op, (ast.Is, ast.IsNot)) for op in node.ops):
                    self.assertTrue(all(isinstance(part, ast.Constant) for part in node.comparators), where)
                if isinstance(node, ast.Starred):
                    self.assertIsInstance(node.ctx, ast.Store, where)

    def test_escapes(self):
        for name, text in self.texts.items():
            for token in tokenize.generate_tokens(io.StringIO(text).readline):
                if token.type != tokenize.COMMENT:
                    self.assertNotRegex(token.string, r"""\\[^nt\\'"]""", f"{name}:{token.start[0]}")

    def test_module_level_values(self):
        for name, tree in self.trees.items():
            for node in tree.body:
                if isinstance(node, ast.Assign):
                    value = ast.literal_eval(node.value)
                    parts = list(value.values()) if isinstance(value, dict) else value
                    if isinstance(parts, (list, tuple)):
                        self.assertFalse(any(isinstance(part, (list, dict)) for part in parts), name)

    def test_bound_once_at_module_level(self):
        for name, tree in self.trees.items():
            bound = []
            for node in tree.body:
                if isinstance(node, ast.ImportFrom):
                    bound += [alias.asname or alias.name for alias in node.names]
                elif isinstance(node, ast.Assign):
                    bound += [target.id for target in node.targets]
                elif isinstance(node, (ast.FunctionDef, ast.ClassDef)):
                    bound.append(node.name)
            self.assertEqual(sorted(bound), sorted(set(bound)), name)

    def test_module_level(self):
        allowed = (ast.ImportFrom, ast.FunctionDef, ast.ClassDef, ast.Assign)
        for name, tree in self.trees.items():
            for node in tree.body[1:]:
                self.assertIsInstance(node, allowed, f"{name}:{node.lineno}")

    def test_statements_and_expressions(self):
        for name, tree in self.trees.items():
            for node in ast.walk(tree):
                where = f"{name}:{getattr(node, 'lineno', '?')}"
                self.assertNotIsInstance(node, BARRED_NODES, where)
                if isinstance(node, (ast.For, ast.While)):
                    self.assertEqual(node.orelse, [], where)
                if isinstance(node, ast.Constant):
                    self.assertNotIsInstance(node.value, (float, complex), where)
                    self.assertNotIn("%", str(node.value), where)
                if isinstance(node, ast.FormattedValue):
                    self.assertIsNone(node.format_spec, where)

    def test_functions_and_classes(self):
        for name, tree in self.trees.items():
            for node in ast.walk(tree):
                if isinstance(node, ast.FunctionDef):
                    self.assertLessEqual(node.end_lineno - node.lineno + 1, 40, f"{name}: {node.name}")
                    self.assertEqual(node.decorator_list, [])
                    self.assertEqual((node.args.vararg, node.args.kwarg, node.args.posonlyargs), (None, None, []))
                if isinstance(node, ast.ClassDef):
                    self.assertLessEqual(len(node.bases), 1)
                    self.assertEqual((node.decorator_list, node.keywords), ([], []))
                    for part in node.body[1:]:
                        self.assertIsInstance(part, ast.FunctionDef, f"{name}:{part.lineno}")

    def test_names(self):
        for name, tree in self.trees.items():
            imported = [alias.asname or alias.name for node in tree.body
                        if isinstance(node, ast.ImportFrom) for alias in node.names]
            barred = BARRED_NAMES | set(imported) | set(dir(builtins))
            for bound, line in bound_names(tree):
                if bound not in DOUBLE_UNDERSCORES:
                    self.assertNotIn(bound, barred, f"{name}:{line}")
                    self.assertRegex(bound, r"^[A-Za-z]", f"{name}:{line}")

    def test_builtins(self):
        for name, tree in self.trees.items():
            for node in ast.walk(tree):
                if isinstance(node, ast.Name) and node.id in dir(builtins):
                    self.assertIn(node.id, BUILTINS, f"{name}:{node.lineno}")


if __name__ == "__main__":
    unittest.main()
