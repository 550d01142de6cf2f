"""Those rules on the form of the package that can be read off its files."""

import ast
import builtins
import re
import unittest
from pathlib import Path

from xorturns import errors

FOLDER = Path(__file__).resolve().parent.parent / "xorturns"
FILES = sorted(FOLDER.rglob("*.py"))
BARRED_WORDS = (
    "type typing typing_extensions enum Enum IntEnum StrEnum Flag IntFlag Generic Protocol ABC ABCMeta "
    "namedtuple NamedTuple TypedDict TYPE_CHECKING abstractmethod"
).split()
BUILTINS = (
    "len range enumerate zip min max sum abs sorted reversed int str bool bytes list tuple dict set frozenset "
    "isinstance ord repr any all divmod Exception ValueError TypeError KeyError IndexError LookupError "
    "ZeroDivisionError ArithmeticError OverflowError RuntimeError NotImplementedError AttributeError StopIteration "
    "NotImplemented iter next property staticmethod classmethod super"
).split()
METHODS = (
    "append clear copy count endswith extend find get index insert isalnum isalpha isdigit islower isspace isupper "
    "items join keys ljust lower lstrip partition pop remove replace reverse rfind rjust rpartition rsplit rstrip "
    "setdefault split splitlines startswith strip update upper values zfill bit_length"
).split()
OPERATORS = "xor or and sub add invert contains getitem bool".split()
OWN_ERRORS = {name for name in vars(errors) if isinstance(vars(errors)[name], type)}


def nodes_of(file, *kinds):
    return [node for node in ast.walk(ast.parse(file.read_text())) if isinstance(node, kinds)]


def classes():
    return [node for file in FILES for node in nodes_of(file, ast.ClassDef)]


def methods_of(node):
    return [part for part in node.body if isinstance(part, ast.FunctionDef)]


def rows_of(node):
    """The statements of a function behind its docstring, as they are written."""
    rows = [ast.unparse(part) for part in node.body]
    return rows[1:] if ast.get_docstring(node) is not None else rows


def stored_names():
    """The names of all attributes that are assigned."""
    stored = [node for file in FILES for node in nodes_of(file, ast.Attribute) if isinstance(node.ctx, ast.Store)]
    return {node.attr for node in stored}


def is_simple(node):
    """Whether a finally may assign this."""
    if isinstance(node, ast.Tuple):
        return all(is_simple(part) for part in node.elts)
    return isinstance(node, (ast.Name, ast.Attribute, ast.Constant))


class FormTest(unittest.TestCase):

    def test_files(self):
        self.assertIn(FOLDER / "__init__.py", FILES)
        kept = [path for path in FOLDER.rglob("*") if "__pycache__" not in path.parts]
        self.assertEqual(sorted(kept), FILES)
        for file in FILES:
            self.assertRegex(file.name, r"^[a-z0-9_]+\.py$")

    def test_imports(self):
        for file in FILES:
            with self.subTest(file.name):
                self.assertEqual(nodes_of(file, ast.Import), [])
                for node in nodes_of(file, ast.ImportFrom):
                    self.assertEqual(node.level, 0)
                    self.assertTrue(node.module.startswith("xorturns."))
                    self.assertNotIn("*", [name.name for name in node.names])

    def test_size(self):
        for file in FILES:
            lines = file.read_text().split("\n")
            with self.subTest(file.name):
                self.assertLessEqual(len(lines), 400)
                self.assertLessEqual(max(len(line) for line in lines), 120)
                for node in nodes_of(file, ast.FunctionDef):
                    self.assertLessEqual(node.end_lineno - node.lineno + 1, 40)

    def test_characters_and_words(self):
        for file in FILES:
            text = file.read_bytes().decode()
            with self.subTest(file.name):
                self.assertRegex(text, r"\A[ -~\n]*\Z")
                self.assertEqual([word for word in BARRED_WORDS if re.search(rf"\b{word}\b", text)], [])
                self.assertIsNone(re.search("dataclass|overload|contextmanager", text))

    def test_strings_and_numbers(self):
        for file in FILES:
            with self.subTest(file.name):
                for node in nodes_of(file, ast.Constant):
                    self.assertNotIsInstance(node.value, (float, complex))
                    if isinstance(node.value, str):
                        self.assertNotIn("%", node.value)

    def test_names(self):
        for file in FILES:
            named = [node.name for node in nodes_of(file, ast.FunctionDef, ast.ClassDef)]
            named += [node.id for node in nodes_of(file, ast.Name)] + [node.arg for node in nodes_of(file, ast.arg)]
            with self.subTest(file.name):
                self.assertEqual([name for name in named if name.startswith("_") and not name.endswith("__")], [])

    def test_statements_that_are_not_allowed(self):
        barred = (ast.Global, ast.AsyncFunctionDef, ast.AsyncFor, ast.AsyncWith, ast.Await, ast.Div)
        for file in FILES:
            with self.subTest(file.name):
                self.assertEqual(nodes_of(file, *barred), [])

    def test_builtins(self):
        for file in FILES:
            with self.subTest(file.name):
                read = [node.id for node in nodes_of(file, ast.Name)]
                used = {name for name in read if hasattr(builtins, name)}
                self.assertEqual(used - set(BUILTINS), set())

    def test_no_name_is_given_another_meaning(self):
        for file in FILES:
            taken = set(dir(builtins)) | {node.name for node in nodes_of(file, ast.ClassDef)}
            taken |= {name.asname or name.name for node in nodes_of(file, ast.ImportFrom) for name in node.names}
            bound = [node.id for node in nodes_of(file, ast.Name) if isinstance(node.ctx, ast.Store)]
            bound += [node.arg for node in nodes_of(file, ast.arg)]
            bound += [node.name for node in nodes_of(file, ast.FunctionDef)]
            with self.subTest(file.name):
                self.assertEqual(taken & set(bound), set())

    def test_methods(self):
        own = {node.name for file in FILES for node in nodes_of(file, ast.FunctionDef)}
        for file in FILES:
            called = {node.func.attr for node in nodes_of(file, ast.Call) if isinstance(node.func, ast.Attribute)}
            with self.subTest(file.name):
                self.assertEqual(called - set(METHODS) - own, set())

    def test_is_and_powers(self):
        for file in FILES:
            with self.subTest(file.name):
                for node in nodes_of(file, ast.Compare):
                    if any(isinstance(sign, (ast.Is, ast.IsNot)) for sign in node.ops):
                        self.assertIn(ast.unparse(node.comparators[0]), ("None", "True", "False"))
                for node in nodes_of(file, ast.BinOp):
                    if isinstance(node.op, ast.Pow):
                        self.assertIsInstance(node.right, ast.Constant)

    def test_no_file_imports_from_one_that_imports_it(self):
        needed = {"xorturns." + file.stem: [node.module for node in nodes_of(file, ast.ImportFrom)] for file in FILES}
        while needed:
            free = [name for name in needed if not set(needed[name]) & set(needed)]
            self.assertNotEqual(free, [])
            for name in free:
                del needed[name]

    def test_sums_and_the_like_take_lists(self):
        # The package has classes with == and operators, beside which these take no generator expression.
        for file in FILES:
            with self.subTest(file.name):
                for node in nodes_of(file, ast.Call):
                    if isinstance(node.func, ast.Name) and node.func.id in ("any", "all", "min", "max", "sum", "sorted"):
                        self.assertFalse([arg for arg in node.args if isinstance(arg, ast.GeneratorExp)])


class ClassesTest(unittest.TestCase):

    def test_double_underscore_methods(self):
        allowed = {f"__{name}__" for name in ("init", "eq", "str", "len", "call", "iter", *OPERATORS)}
        for node in classes():
            for method in methods_of(node):
                if method.name.startswith("__"):
                    self.assertIn(method.name, allowed)

    def test_what_has_indexes_is_not_iterated(self):
        found = 0
        for node in classes():
            named = {method.name: method for method in methods_of(node)}
            if "__getitem__" in named:
                found += 1
                rows = rows_of(named["__iter__"])
                self.assertEqual(len(rows), 1)
                self.assertTrue(rows[0].startswith("raise TypeError("))
        self.assertEqual(found, 2)

    def test_comparison_text_and_number_are_one_row(self):
        starts = {"__eq__": "return isinstance(other, ", "__str__": "return f", "__len__": "return len(",
                  "__bool__": "return len("}
        for node in classes():
            for method in methods_of(node):
                if method.name in starts:
                    rows = rows_of(method)
                    self.assertEqual(len(rows), 1)
                    self.assertTrue(rows[0].startswith(starts[method.name]))

    def test_operators_and_properties_change_nothing(self):
        barred = (ast.Assign, ast.AugAssign, ast.Delete, ast.Expr, ast.For, ast.While, ast.Try)
        for node in classes():
            for method in methods_of(node):
                marks = [ast.unparse(mark) for mark in method.decorator_list]
                if marks == ["property"] or method.name[2:-2] in OPERATORS:
                    with self.subTest(node.name + " " + method.name):
                        rows = [part for part in ast.walk(method) if isinstance(part, barred)]
                        kept = [row for row in rows if not (isinstance(row, ast.Expr) and isinstance(row.value, ast.Constant))]
                        self.assertEqual(kept, [])

    def test_decorators(self):
        seen = [ast.unparse(mark) for file in FILES for node in nodes_of(file, ast.FunctionDef) for mark in node.decorator_list]
        self.assertEqual(set(seen), {"property", "mark.setter", "classmethod", "staticmethod"})
        self.assertEqual(seen.count("mark.setter"), 1)

    def test_no_name_is_a_method_and_an_attribute(self):
        methods, properties = set(), set()
        for node in classes():
            for method in methods_of(node):
                marks = [ast.unparse(mark) for mark in method.decorator_list]
                (properties if marks and marks[0] not in ("classmethod", "staticmethod") else methods).add(method.name)
        values = {target.id for node in classes() for part in node.body if isinstance(part, ast.Assign)
                  for target in part.targets}
        self.assertEqual(methods & (stored_names() - {"mark"}), set())
        self.assertEqual(properties & stored_names(), {"mark"})
        self.assertEqual(properties & methods, set())
        self.assertEqual(values & (methods | properties | stored_names()), set())
        self.assertEqual({"keys", "items", "values", "args", "sort"} & (methods | properties | stored_names()), set())

    def test_attributes_that_are_read_are_assigned(self):
        own = {method.name for node in classes() for method in methods_of(node)} | {"MOST_EDITS", "NAMES", "setter"}
        for file in FILES:
            read = {node.attr for node in nodes_of(file, ast.Attribute)}
            with self.subTest(file.name):
                self.assertEqual(read - own - stored_names() - set(METHODS), set())
                self.assertEqual([name for name in read if name.startswith("_") and name != "__init__"], [])

    def test_own_errors_are_caught_by_name(self):
        for file in FILES:
            with self.subTest(file.name):
                for node in nodes_of(file, ast.ExceptHandler):
                    parts = node.type.elts if isinstance(node.type, ast.Tuple) else [node.type]
                    self.assertEqual({ast.unparse(part) for part in parts} - OWN_ERRORS, set())

    def test_errors_are_made_where_they_are_raised(self):
        for file in FILES:
            with self.subTest(file.name):
                for node in nodes_of(file, ast.Raise):
                    self.assertIsInstance(node.exc, ast.Call)
                    self.assertIn(ast.unparse(node.exc.func), OWN_ERRORS | {"TypeError"})
                    self.assertFalse([arg for arg in node.exc.args if isinstance(arg, ast.Starred)])
                    self.assertEqual(node.exc.keywords, [])

    def test_finally(self):
        for file in FILES:
            for node in nodes_of(file, ast.Try):
                for part in node.finalbody:
                    rows = [part]
                    if isinstance(part, ast.If):
                        self.assertRegex(ast.unparse(part.test), r"^\w+ is None$")
                        rows = [*part.body, *part.orelse]
                    for row in rows:
                        self.assertIsInstance(row, ast.Assign)
                        self.assertTrue(all(is_simple(node) for node in (*row.targets, row.value)))

    def test_super(self):
        for file in FILES:
            for node in nodes_of(file, ast.Call):
                if ast.unparse(node.func) == "super":
                    self.assertEqual(node.args, [])
            text = file.read_text()
            self.assertEqual(text.count("super()"), len(re.findall(r"super\(\)\.\w+\(", text)))


if __name__ == "__main__":
    unittest.main()
