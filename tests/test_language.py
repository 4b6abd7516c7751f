"""The rules of ../shared/LANGUAGE.md that can be seen in the code without running it.

These are the plain ones (L1 to L3, L5 to L8, L10, L12, L14 to L17, L21, L22, L25, L27); the others are kept by reading.
"""

import ast
import builtins
import pathlib
import re
import unittest

PACKAGE = pathlib.Path(__file__).resolve().parent.parent / "boxballs"

BUILTINS = set(
    "len range enumerate zip min max sum abs sorted reversed int str bool bytes list tuple dict set frozenset "
    "isinstance ord repr any all divmod Exception ValueError TypeError KeyError IndexError LookupError "
    "ZeroDivisionError ArithmeticError OverflowError RuntimeError NotImplementedError AttributeError "
    "StopIteration".split())

BARRED_NODES = (
    ast.With, ast.Match, ast.Global, ast.Nonlocal, ast.Yield, ast.YieldFrom, ast.AsyncFunctionDef, ast.Await,
    ast.GeneratorExp, ast.NamedExpr, ast.Div, ast.Import, ast.AnnAssign,
)

BARRED_WORDS = re.compile(
    r"\b(type|typing|typing_extensions|enum|Enum|IntEnum|StrEnum|Flag|IntFlag|Generic|Protocol|ABC|ABCMeta"
    r"|namedtuple|NamedTuple|TypedDict|TYPE_CHECKING|abstractmethod)\b|dataclass|overload|contextmanager")

BARRED_NAMES = set(
    "register mro elements open input version_info with_traceback add_note attrgetter breakpoint builtins compile "
    "copyright credits delattr dir eval exec exit gc getattr globals hasattr help id importlib license locals "
    "methodcaller os quit setattr super vars sys".split())

METHODS = set(
    "append clear copy count endswith extend find get index insert isalnum isalpha isdigit islower isspace isupper "
    "items join keys ljust lower lstrip partition pop remove replace reverse rfind rjust rpartition rsplit rstrip "
    "setdefault split splitlines startswith strip update upper values zfill bit_length".split())

KEYWORDS = {"sorted": {"key", "reverse"}, "min": {"key", "default"}, "max": {"key", "default"},
            "sum": {"start"}, "enumerate": {"start"}, "zip": {"strict"}}

DOUBLE_UNDERSCORES = {"__init__", "__eq__", "__repr__", "__str__", "__len__"}


def bound_names(tree):
    """Every name that the file binds, with its line."""
    for node in ast.walk(tree):
        if isinstance(node, ast.Name) and not isinstance(node.ctx, ast.Load):
            yield node.id, node.lineno
        elif isinstance(node, (ast.FunctionDef, ast.ClassDef)):
            yield node.name, node.lineno
        elif isinstance(node, ast.arg):
            yield node.arg, node.lineno


class Language(unittest.TestCase):

    def setUp(self):
        self.texts = {path.name: path.read_text("ascii") for path in sorted(PACKAGE.glob("*.py"))}
        self.trees = {name: ast.parse(text) for name, text in self.texts.items()}

    def test_files(self):
        self.assertIn("__init__.py", self.texts)
        for path in PACKAGE.iterdir():
            if path.name != "__pycache__":
                self.assertRegex(path.name, r"^([a-z][a-z0-9_]*|__init__|__main__)\.py$")

    def test_lines_and_characters(self):
        for name, text in self.texts.items():
            self.assertNotRegex(text, r"[^ -~\n]", name)
            self.assertIsNone(BARRED_WORDS.search(text), name)
            lines = text.splitlines()
            self.assertLessEqual(len(lines), 400, name)
            self.assertLessEqual(max(map(len, lines)), 120, name)

    def test_imports(self):
        for name, tree in self.trees.items():
            for node in ast.walk(tree):
                if isinstance(node, ast.ImportFrom):
                    self.assertIn(node, tree.body)
                    self.assertRegex(node.module, r"^boxballs\.[a-z]", name)
                    self.assertEqual(node.level, 0)
                    self.assertNotIn("*", [alias.name for alias in node.names])

    def test_imports_lead_to_the_file_that_defines_the_name(self):
        for tree in self.trees.values():
            for node in tree.body:
                if isinstance(node, ast.ImportFrom):
                    there = self.trees[node.module.removeprefix("boxballs.") + ".py"]
                    defined = [part.name for part in there.body if isinstance(part, (ast.FunctionDef, ast.ClassDef))]
                    for alias in node.names:
                        self.assertIn(alias.name, defined)

    def test_imports_never_lead_back(self):
        after = {name: {node.module.removeprefix("boxballs.") + ".py" for node in tree.body
                        if isinstance(node, ast.ImportFrom)} for name, tree in self.trees.items()}
        while after:
            free = [name for name in after if not after[name] & set(after)]
            self.assertTrue(free, f"imported in a ring: {sorted(after)}")
            for name in free:
                del after[name]

    def test_calls(self):
        for name, tree in self.trees.items():
            for node in ast.walk(tree):
                if isinstance(node, ast.Call):
                    where = f"{name}:{node.lineno}"
                    if isinstance(node.func, ast.Attribute):
                        self.assertIn(node.func.attr, METHODS, where)
                        self.assertEqual(node.keywords, [], where)
                    elif node.func.id in BUILTINS:
                        keywords = {keyword.arg for keyword in node.keywords}
                        self.assertLessEqual(keywords, KEYWORDS.get(node.func.id, set()), where)

    def test_bound_once_at_module_level(self):
        for name, tree in self.trees.items():
            bound = []
            for node in tree.body:
                if isinstance(node, ast.ImportFrom):
                    bound += [alias.asname or alias.name for alias in node.names]
                elif isinstance(node, ast.Assign):
                    bound += [target.id for target in node.targets]
                elif isinstance(node, (ast.FunctionDef, ast.ClassDef)):
                    bound.append(node.name)
            self.assertEqual(sorted(bound), sorted(set(bound)), name)

    def test_module_level(self):
        allowed = (ast.ImportFrom, ast.FunctionDef, ast.ClassDef, ast.Assign)
        for name, tree in self.trees.items():
            for node in tree.body[1:]:
                self.assertIsInstance(node, allowed, f"{name}:{node.lineno}")

    def test_statements_and_expressions(self):
        for name, tree in self.trees.items():
            for node in ast.walk(tree):
                where = f"{name}:{getattr(node, 'lineno', '?')}"
                self.assertNotIsInstance(node, BARRED_NODES, where)
                if isinstance(node, (ast.For, ast.While)):
                    self.assertEqual(node.orelse, [], where)
                if isinstance(node, ast.Constant):
                    self.assertNotIsInstance(node.value, (float, complex), where)
                    self.assertNotIn("%", str(node.value), where)
                if isinstance(node, ast.FormattedValue):
                    self.assertIsNone(node.format_spec, where)

    def test_functions_and_classes(self):
        for name, tree in self.trees.items():
            for node in ast.walk(tree):
                if isinstance(node, ast.FunctionDef):
                    self.assertLessEqual(node.end_lineno - node.lineno + 1, 40, f"{name}: {node.name}")
                    self.assertEqual(node.decorator_list, [])
                    self.assertEqual((node.args.vararg, node.args.kwarg, node.args.posonlyargs), (None, None, []))
                if isinstance(node, ast.ClassDef):
                    self.assertLessEqual(len(node.bases), 1)
                    self.assertEqual((node.decorator_list, node.keywords), ([], []))

    def test_names(self):
        for name, tree in self.trees.items():
            imported = [alias.asname or alias.name for node in tree.body
                        if isinstance(node, ast.ImportFrom) for alias in node.names]
            barred = BARRED_NAMES | set(imported) | set(dir(builtins))
            for bound, line in bound_names(tree):
                if bound not in DOUBLE_UNDERSCORES:
                    self.assertNotIn(bound, barred, f"{name}:{line}")
                    self.assertRegex(bound, r"^[A-Za-z]", f"{name}:{line}")

    def test_builtins(self):
        for name, tree in self.trees.items():
            for node in ast.walk(tree):
                if isinstance(node, ast.Name) and node.id in dir(builtins):
                    self.assertIn(node.id, BUILTINS, f"{name}:{node.lineno}")


if __name__ == "__main__":
    unittest.main()
