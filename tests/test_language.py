"""The rules of the language that can be read off the package's files."""

import ast
import builtins
import pathlib
import re
import unittest

PACKAGE = pathlib.Path(__file__).resolve().parent.parent / "standblocks"

BUILT_IN = set(
    "len range enumerate zip min max sum abs sorted reversed int str bool list tuple dict set frozenset isinstance "
    "ord repr any all divmod Exception ValueError TypeError KeyError IndexError LookupError ZeroDivisionError "
    "ArithmeticError OverflowError RuntimeError NotImplementedError AttributeError StopIteration".split()
)

METHODS = set(
    "append clear copy count endswith extend find get index insert isalnum isalpha isdigit islower isspace isupper "
    "items join keys ljust lower lstrip partition pop remove replace reverse rfind rjust rpartition rsplit rstrip "
    "setdefault split splitlines startswith strip update upper values zfill bit_length".split()
)

UNUSED_WORDS = (
    "type typing typing_extensions enum Enum IntEnum StrEnum Flag IntFlag Generic Protocol ABC ABCMeta namedtuple "
    "NamedTuple TypedDict TYPE_CHECKING abstractmethod register mro elements open input version_info with_traceback "
    "add_note"
).split()

KEPT_OUT = (
    ast.With, ast.Match, ast.Delete, ast.Global, ast.Nonlocal, ast.Assert, ast.Yield, ast.YieldFrom, ast.Await,
    ast.AsyncFor, ast.AsyncFunctionDef, ast.AsyncWith, ast.SetComp, ast.DictComp, ast.GeneratorExp, ast.NamedExpr,
    ast.Starred, ast.Div, ast.Import, ast.AnnAssign, ast.TryStar,
)

TOP_LEVEL = (ast.Expr, ast.ImportFrom, ast.FunctionDef, ast.ClassDef, ast.Assign)


class Language(unittest.TestCase):
    def setUp(self):
        self.texts = {path: path.read_text() for path in sorted(PACKAGE.glob("*.py"))}
        self.trees = {path: ast.parse(text) for path, text in self.texts.items()}
        self.assertIn(PACKAGE / "planner.py", self.trees)

    def walk(self, *kinds):
        for path, tree in self.trees.items():
            for node in ast.walk(tree):
                if isinstance(node, kinds):
                    yield f"{path.name}:{getattr(node, 'lineno', 0)}", node

    def test_only_plain_files(self):
        for path in PACKAGE.iterdir():
            if path.name != "__pycache__":
                self.assertRegex(path.name, r"^(__init__|[a-z][a-z0-9_]*)\.py$")

    def test_sizes_and_signs(self):
        for path, text in self.texts.items():
            lines = text.split("\n")
            self.assertLessEqual(len(lines), 399, path)
            self.assertLessEqual(max(len(line) for line in lines), 120, path)
            self.assertRegex(text, r"^[ -~\n]*$", path)
        for place, node in self.walk(ast.FunctionDef):
            self.assertLessEqual(node.end_lineno - node.lineno + 1, 40, place)

    def test_words_that_are_not_used(self):
        for path, text in self.texts.items():
            words = re.findall(r"\w+", text)
            self.assertEqual([word for word in words if word in UNUSED_WORDS], [], path)
            self.assertNotRegex(text, "dataclass|overload|contextmanager")

    def test_tops_of_the_files(self):
        for path, tree in self.trees.items():
            self.assertIsNotNone(ast.get_docstring(tree), path)
            for node in tree.body:
                self.assertIsInstance(node, TOP_LEVEL, f"{path}:{node.lineno}")

    def test_imports(self):
        for place, node in self.walk(ast.ImportFrom):
            self.assertEqual(node.level, 0, place)
            self.assertRegex(node.module, r"^standblocks\.[a-z_]+$", place)
            home = self.trees[PACKAGE / (node.module.split(".")[1] + ".py")]
            there = [item.name for item in home.body if isinstance(item, (ast.FunctionDef, ast.ClassDef))]
            there += [item.targets[0].id for item in home.body if isinstance(item, ast.Assign)]
            for name in node.names:
                self.assertIn(name.name, there, place)
                self.assertIsNone(name.asname, place)

    def test_statements_and_expressions(self):
        for place, node in self.walk(*KEPT_OUT):
            self.fail(f"{place}: {type(node).__name__}")
        for place, node in self.walk(ast.For, ast.While):
            self.assertEqual(node.orelse, [], place)
        for place, node in self.walk(ast.Assign):
            self.assertEqual(len(node.targets), 1, place)
        for place, node in self.walk(ast.ListComp):
            self.assertEqual(len(node.generators), 1, place)
            self.assertLessEqual(len(node.generators[0].ifs), 1, place)
        for place, node in self.walk(ast.Constant):
            self.assertIn(type(node.value), (int, str, bool, type(None)), place)

    def test_plain_parameters(self):
        for place, node in self.walk(ast.FunctionDef):
            self.assertEqual(node.decorator_list, [], place)
            self.assertEqual([node.args.vararg, node.args.kwarg, node.args.kwonlyargs, node.args.posonlyargs],
                             [None, None, [], []], place)

    def test_names(self):
        bound = [(place, node.id) for place, node in self.walk(ast.Name) if isinstance(node.ctx, ast.Store)]
        bound += [(place, node.arg) for place, node in self.walk(ast.arg)]
        bound += [(place, node.name) for place, node in self.walk(ast.FunctionDef, ast.ClassDef)]
        for place, name in bound:
            self.assertNotIn(name, dir(builtins), place)
            self.assertRegex(name, r"^([a-zA-Z][a-zA-Z0-9_]*|__init__)$", place)
        for place, node in self.walk(ast.Name):
            if node.id in dir(builtins):
                self.assertIn(node.id, BUILT_IN, place)

    def test_no_local_is_called_like_an_import_or_a_class(self):
        for path, tree in self.trees.items():
            tops = {name.name for node in tree.body if isinstance(node, ast.ImportFrom) for name in node.names}
            tops |= {node.name for node in tree.body if isinstance(node, ast.ClassDef)}
            for function in [node for node in ast.walk(tree) if isinstance(node, ast.FunctionDef)]:
                inside = {node.arg for node in ast.walk(function) if isinstance(node, ast.arg)}
                inside |= {node.id for node in ast.walk(function)
                           if isinstance(node, ast.Name) and isinstance(node.ctx, ast.Store)}
                self.assertEqual(inside & tops, set(), f"{path.name}:{function.lineno}")

    def test_methods_are_known(self):
        own = {node.name for _, node in self.walk(ast.FunctionDef)}
        for place, node in self.walk(ast.Call):
            if isinstance(node.func, ast.Attribute):
                self.assertIn(node.func.attr, METHODS | own, place)


if __name__ == "__main__":
    unittest.main()
