"""Those rules on the form of the package that can be read off its files."""

import ast
import builtins
import re
import unittest
from pathlib import Path

FOLDER = Path(__file__).resolve().parent.parent / "xorturns"
FILES = sorted(FOLDER.rglob("*.py"))
BARRED_WORDS = (
    "type typing typing_extensions enum Enum IntEnum StrEnum Flag IntFlag Generic Protocol ABC ABCMeta "
    "namedtuple NamedTuple TypedDict TYPE_CHECKING abstractmethod"
).split()
BUILTINS = (
    "len range enumerate zip min max sum abs sorted reversed int str bool bytes list tuple dict set frozenset "
    "isinstance ord repr any all divmod Exception ValueError TypeError KeyError IndexError LookupError "
    "ZeroDivisionError ArithmeticError OverflowError RuntimeError NotImplementedError AttributeError StopIteration "
    "NotImplemented iter next property staticmethod classmethod super"
).split()
METHODS = (
    "append clear copy count endswith extend find get index insert isalnum isalpha isdigit islower isspace isupper "
    "items join keys ljust lower lstrip partition pop remove replace reverse rfind rjust rpartition rsplit rstrip "
    "setdefault split splitlines startswith strip update upper values zfill bit_length"
).split()


def nodes_of(file, *kinds):
    return [node for node in ast.walk(ast.parse(file.read_text())) if isinstance(node, kinds)]


class FormTest(unittest.TestCase):

    def test_files(self):
        self.assertIn(FOLDER / "__init__.py", FILES)
        kept = [path for path in FOLDER.rglob("*") if "__pycache__" not in path.parts]
        self.assertEqual(sorted(kept), FILES)
        for file in FILES:
            self.assertRegex(file.name, r"^[a-z0-9_]+\.py$")

    def test_imports(self):
        for file in FILES:
            with self.subTest(file.name):
                self.assertEqual(nodes_of(file, ast.Import), [])
                for node in nodes_of(file, ast.ImportFrom):
                    self.assertEqual(node.level, 0)
                    self.assertTrue(node.module.startswith("xorturns."))
                    self.assertNotIn("*", [name.name for name in node.names])

    def test_size(self):
        for file in FILES:
            lines = file.read_text().split("\n")
            with self.subTest(file.name):
                self.assertLessEqual(len(lines), 400)
                self.assertLessEqual(max(len(line) for line in lines), 120)
                for node in nodes_of(file, ast.FunctionDef):
                    self.assertLessEqual(node.end_lineno - node.lineno + 1, 40)

    def test_characters_and_words(self):
        for file in FILES:
            text = file.read_bytes().decode()
            with self.subTest(file.name):
                self.assertRegex(text, r"\A[ -~\n]*\Z")
                self.assertEqual([word for word in BARRED_WORDS if re.search(rf"\b{word}\b", text)], [])
                self.assertIsNone(re.search("dataclass|overload|contextmanager", text))

    def test_strings_and_numbers(self):
        for file in FILES:
            with self.subTest(file.name):
                for node in nodes_of(file, ast.Constant):
                    self.assertNotIsInstance(node.value, (float, complex))
                    if isinstance(node.value, str):
                        self.assertNotIn("%", node.value)

    def test_names(self):
        for file in FILES:
            named = [node.name for node in nodes_of(file, ast.FunctionDef, ast.ClassDef)]
            named += [node.id for node in nodes_of(file, ast.Name)] + [node.arg for node in nodes_of(file, ast.arg)]
            with self.subTest(file.name):
                self.assertEqual([name for name in named if name.startswith("_") and not name.endswith("__")], [])

    def test_statements_that_are_not_allowed(self):
        barred = (ast.Global, ast.AsyncFunctionDef, ast.AsyncFor, ast.AsyncWith, ast.Await, ast.Div)
        for file in FILES:
            with self.subTest(file.name):
                self.assertEqual(nodes_of(file, *barred), [])

    def test_builtins(self):
        for file in FILES:
            with self.subTest(file.name):
                read = [node.id for node in nodes_of(file, ast.Name)]
                used = {name for name in read if hasattr(builtins, name)}
                self.assertEqual(used - set(BUILTINS), set())

    def test_no_name_is_given_another_meaning(self):
        for file in FILES:
            taken = set(dir(builtins)) | {node.name for node in nodes_of(file, ast.ClassDef)}
            taken |= {name.name for node in nodes_of(file, ast.ImportFrom) for name in node.names}
            bound = [node.id for node in nodes_of(file, ast.Name) if isinstance(node.ctx, ast.Store)]
            bound += [node.arg for node in nodes_of(file, ast.arg)]
            bound += [node.name for node in nodes_of(file, ast.FunctionDef)]
            with self.subTest(file.name):
                self.assertEqual(taken & set(bound), set())

    def test_methods(self):
        own = {node.name for file in FILES for node in nodes_of(file, ast.FunctionDef)}
        for file in FILES:
            called = {node.func.attr for node in nodes_of(file, ast.Call) if isinstance(node.func, ast.Attribute)}
            with self.subTest(file.name):
                self.assertEqual(called - set(METHODS) - own, set())

    def test_is_and_powers(self):
        for file in FILES:
            with self.subTest(file.name):
                for node in nodes_of(file, ast.Compare):
                    if any(isinstance(sign, (ast.Is, ast.IsNot)) for sign in node.ops):
                        self.assertIn(ast.unparse(node.comparators[0]), ("None", "True", "False"))
                for node in nodes_of(file, ast.BinOp):
                    if isinstance(node.op, ast.Pow):
                        self.assertIsInstance(node.right, ast.Constant)

    def test_no_file_imports_from_one_that_imports_it(self):
        needed = {"xorturns." + file.stem: [node.module for node in nodes_of(file, ast.ImportFrom)] for file in FILES}
        while needed:
            free = [name for name in needed if not set(needed[name]) & set(needed)]
            self.assertNotEqual(free, [])
            for name in free:
                del needed[name]

    def test_sums_and_the_like_take_lists(self):
        # The package will have classes with == and operators, beside which these take no generator expression.
        for file in FILES:
            with self.subTest(file.name):
                for node in nodes_of(file, ast.Call):
                    if isinstance(node.func, ast.Name) and node.func.id in ("any", "all", "min", "max", "sum", "sorted"):
                        self.assertFalse([arg for arg in node.args if isinstance(arg, ast.GeneratorExp)])


if __name__ == "__main__":
    unittest.main()
