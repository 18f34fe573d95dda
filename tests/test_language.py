"""The form of the code: those rules of the language that can be seen in the files."""

import ast
import builtins
import pathlib
import re
import unittest

PACKAGE = pathlib.Path(__file__).parent.parent / "poolday"

STATEMENTS = (ast.Module, ast.FunctionDef, ast.ClassDef, ast.arguments, ast.arg, ast.ImportFrom,
              ast.alias, ast.Assign, ast.AugAssign, ast.If, ast.While, ast.For, ast.Return,
              ast.Break, ast.Continue, ast.Pass, ast.Raise, ast.Try, ast.ExceptHandler, ast.Expr)
EXPRESSIONS = (ast.Constant, ast.List, ast.Tuple, ast.Dict, ast.BinOp, ast.UnaryOp, ast.BoolOp,
               ast.Compare, ast.IfExp, ast.Call, ast.keyword, ast.Attribute, ast.Subscript,
               ast.Slice, ast.ListComp, ast.comprehension, ast.Name, ast.expr_context,
               ast.operator, ast.unaryop, ast.boolop, ast.cmpop)
OWN_NAMES = """len range enumerate zip min max sum abs sorted reversed int str bool list tuple dict
    set frozenset isinstance ord repr any all divmod Exception ValueError TypeError KeyError
    IndexError LookupError ZeroDivisionError ArithmeticError OverflowError RuntimeError
    NotImplementedError AttributeError StopIteration""".split()
OWN_METHODS = """append clear copy count endswith extend find get index insert isalnum isalpha
    isdigit islower isspace isupper items join keys ljust lower lstrip partition pop remove replace
    reverse rfind rjust rpartition rsplit rstrip setdefault split splitlines startswith strip update
    upper values zfill bit_length""".split()
UNUSED_WORDS = """type typing typing_extensions enum Enum IntEnum StrEnum Flag IntFlag Generic
    Protocol ABC ABCMeta namedtuple NamedTuple TypedDict TYPE_CHECKING abstractmethod""".split()
CALLS = {
    "judge": "pool card money",
    "total": "pool card money",
    "on": "pool number card money",
    "put": "card bet money",
    "back": "card bet money",
    "join": "pool card money other",
    "bet": "card bet money",
}


class Language(unittest.TestCase):
    @classmethod
    def setUpClass(cls):
        cls.files = sorted(PACKAGE.glob("**/*.py"))
        cls.texts = {path.name: path.read_text("utf-8") for path in cls.files}
        cls.trees = {name: ast.parse(text) for name, text in cls.texts.items()}

    def nodes(self, kind):
        for name, tree in self.trees.items():
            for node in ast.walk(tree):
                if isinstance(node, kind):
                    yield name, node

    def test_nothing_but_plain_files(self):
        self.assertIn("pools.py", self.texts)
        for path in PACKAGE.iterdir():
            if path.name != "__pycache__":
                self.assertRegex(path.name, r"^(__init__|[a-z][a-z0-9_]*)\.py$")
                self.assertFalse(path.stem in vars(builtins), path.name)

    def test_sizes(self):
        for name, text in self.texts.items():
            lines = text.split("\n")
            self.assertLessEqual(len(lines), 400, name)
            self.assertLessEqual(max(len(line) for line in lines), 120, name)
        for name, node in self.nodes(ast.FunctionDef):
            self.assertLessEqual(node.end_lineno - node.lineno + 1, 40, (name, node.name))

    def test_signs_and_words(self):
        for name, text in self.texts.items():
            self.assertRegex(text, r"\A[ -~\n]*\Z", name)
            self.assertEqual([], [w for w in re.findall(r"\w+", text) if w in UNUSED_WORDS], name)
            self.assertNotRegex(text, "dataclass|overload|contextmanager", name)

    def test_only_the_parts_of_the_language_that_are_allowed(self):
        for name, node in self.nodes(ast.AST):
            self.assertIsInstance(node, STATEMENTS + EXPRESSIONS, (name, node))
            self.assertNotIsInstance(node, (ast.Div, ast.MatMult), name)
            if isinstance(node, ast.Constant):
                self.assertIsInstance(node.value, (int, str, type(None)), (name, node.lineno))
                self.assertNotIn("%", str(node.value), (name, node.lineno))

    def test_only_the_packages_own_modules_are_drawn_from(self):
        for name, node in self.nodes(ast.ImportFrom):
            self.assertEqual(0, node.level, name)
            self.assertIn(f"{node.module}.py", [f"poolday.{own}" for own in self.texts], name)
            self.assertNotIn("*", [alias.name for alias in node.names], name)

    def test_pythons_own_names(self):
        for name, node in self.nodes(ast.Name):
            self.assertFalse(node.id.startswith("_"), (name, node.id))
            if node.id in vars(builtins):
                self.assertIn(node.id, OWN_NAMES, name)
                self.assertIsInstance(node.ctx, ast.Load, (name, node.id))
        for name, node in self.nodes(ast.arg):
            self.assertFalse(node.arg in vars(builtins), (name, node.arg))

    def test_pythons_own_methods(self):
        for name, node in self.nodes(ast.Call):
            if isinstance(node.func, ast.Attribute):
                self.assertIn(node.func.attr, OWN_METHODS, (name, node.lineno))

    def test_functions_have_plain_parameters(self):
        for name, node in self.nodes(ast.FunctionDef):
            self.assertEqual([], node.decorator_list, (name, node.name))
            self.assertEqual([], node.args.kwonlyargs + node.args.posonlyargs, (name, node.name))
            self.assertIsNone(node.args.vararg, (name, node.name))
            self.assertIsNone(node.args.kwarg, (name, node.name))


class Interface(unittest.TestCase):
    def test_names_and_arguments(self):
        tree = ast.parse((PACKAGE / "pools.py").read_text("utf-8"))
        found = {node.name: [arg.arg for arg in node.args.args] for node in tree.body
                 if isinstance(node, ast.FunctionDef)}
        for call, arguments in CALLS.items():
            self.assertEqual(arguments.split(), found[call])


if __name__ == "__main__":
    unittest.main()
