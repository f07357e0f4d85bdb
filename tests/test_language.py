"""The rules of the language that a look at the package's files can tell."""

import ast
import builtins
import pathlib
import re
import unittest

PACKAGE = pathlib.Path(__file__).resolve().parent.parent / "starcover"
FILES = sorted(PACKAGE.glob("*.py"))

OWN_NAMES = set("""len range enumerate zip min max sum abs sorted reversed int str bool list tuple dict set frozenset
    isinstance ord repr any all divmod Exception ValueError KeyError IndexError LookupError
    ZeroDivisionError""".split())
METHODS = set("""append clear copy count endswith extend find get index insert isalnum isalpha isdigit islower isspace
    isupper items join keys ljust lower lstrip partition pop remove replace reverse rfind rjust rpartition rsplit rstrip
    setdefault split splitlines startswith strip update upper values zfill bit_length""".split())
WORDS = """type typing typing_extensions enum Enum IntEnum StrEnum Flag IntFlag Generic Protocol ABC ABCMeta namedtuple
    NamedTuple TypedDict TYPE_CHECKING abstractmethod""".split()
NODES = (ast.Import, ast.ImportFrom, ast.With, ast.Match, ast.Delete, ast.Global, ast.Nonlocal, ast.Assert, ast.Yield,
         ast.YieldFrom, ast.AsyncFunctionDef, ast.AsyncFor, ast.AsyncWith, ast.Await, ast.SetComp, ast.DictComp,
         ast.GeneratorExp, ast.NamedExpr, ast.Starred, ast.Div, ast.AnnAssign, ast.Is, ast.IsNot)


class Language(unittest.TestCase):
    def each(self, kind):
        return [node for file in FILES for node in ast.walk(ast.parse(file.read_text("utf-8"), file.name))
                if isinstance(node, kind)]

    def test_only_python_files_lie_in_the_package(self):
        found = [path.name for path in PACKAGE.iterdir() if path.name != "__pycache__"]
        self.assertEqual(sorted(found), ["__init__.py", "house.py"])

    def test_signs_words_and_sizes(self):
        for file in FILES:
            text = file.read_text("utf-8")
            self.assertIsNone(re.search(r"[^ -~\n]", text))
            self.assertIsNone(re.search(r"\b(" + "|".join(WORDS) + r")\b|dataclass|overload|contextmanager", text))
            self.assertLessEqual(len(text.splitlines()), 399)
            self.assertLessEqual(max(map(len, text.splitlines())), 120)

    def test_nothing_is_imported_and_no_other_form_is_used(self):
        self.assertEqual([(node.__class__.__name__, getattr(node, "lineno", 0)) for node in self.each(NODES)], [])

    def test_functions_are_small_and_plain(self):
        for node in self.each(ast.FunctionDef):
            self.assertLessEqual(node.end_lineno - node.lineno + 1, 40)
            self.assertEqual(node.decorator_list, [])
            self.assertNotIn(node.name, vars(builtins))
            self.assertIsNone(node.args.vararg or node.args.kwarg or node.returns)
            for parameter in node.args.args:
                self.assertFalse(hasattr(builtins, parameter.arg), parameter.arg)
                self.assertFalse(parameter.arg.startswith("_"), parameter.arg)

    def test_values_are_plain(self):
        for node in self.each(ast.Constant):
            self.assertIn(type(node.value), (int, str, bool, type(None)))

    def test_names(self):
        for node in self.each(ast.Name):
            self.assertFalse(node.id.startswith("_"), node.id)
            if hasattr(builtins, node.id):
                self.assertIsInstance(node.ctx, ast.Load)
                self.assertIn(node.id, OWN_NAMES)

    def test_methods(self):
        own = {node.name for node in self.each(ast.FunctionDef)}
        for node in self.each(ast.Call):
            if isinstance(node.func, ast.Attribute):
                self.assertIn(node.func.attr, METHODS | own)


if __name__ == "__main__":
    unittest.main()
