"""The form of the package's files: what can be seen of it without running them."""

import ast
import pathlib
import re
import unittest

FOLDER = pathlib.Path(__file__).resolve().parent.parent / "longestrun"
FILES = sorted(FOLDER.rglob("*.py"))
BUILT_IN = {"len", "range", "enumerate", "zip", "min", "max", "sum", "abs", "sorted", "reversed", "int", "str", "bool",
            "list", "tuple", "dict", "set", "isinstance", "ord", "repr", "any", "all", "divmod"}
ERRORS = {"Exception", "ValueError", "KeyError", "IndexError", "LookupError", "ZeroDivisionError", "ArithmeticError",
          "OverflowError", "RuntimeError", "NotImplementedError", "StopIteration"}
METHODS = set("append clear copy count endswith extend find get index insert isalnum isalpha isdigit islower isspace "
              "isupper items join keys ljust lower lstrip partition pop remove replace reverse rfind rjust rpartition "
              "rsplit rstrip setdefault split splitlines startswith strip update upper values zfill "
              "bit_length".split())
WORDS = ("type|typing|typing_extensions|enum|Enum|IntEnum|StrEnum|Flag|IntFlag|Generic|Protocol|ABC|ABCMeta|namedtuple|"
         "NamedTuple|TypedDict|TYPE_CHECKING|abstractmethod|register|mro|elements|open|input")
FORBIDDEN = (ast.With, ast.Match, ast.Delete, ast.Global, ast.Nonlocal, ast.Assert, ast.Yield, ast.YieldFrom,
             ast.AsyncFunctionDef, ast.Await, ast.NamedExpr, ast.Starred, ast.GeneratorExp, ast.SetComp, ast.DictComp,
             ast.Div, ast.Import, ast.AnnAssign, ast.TryStar)


def trees():
    return [(file, ast.parse(file.read_text())) for file in FILES]


def nodes():
    return [(file, node) for file, tree in trees() for node in ast.walk(tree)]


def own_methods():
    classes = [node for file, node in nodes() if isinstance(node, ast.ClassDef)]
    return {node.name for one in classes for node in one.body if isinstance(node, ast.FunctionDef)}


def own_values():
    return {node.attr for file, node in nodes() if isinstance(node, ast.Attribute) and isinstance(node.ctx, ast.Store)}


class Form(unittest.TestCase):
    def test_the_folder(self):
        self.assertIn(FOLDER / "__init__.py", FILES)
        others = [file for file in FOLDER.rglob("*") if file.is_file() and "__pycache__" not in file.parts]
        self.assertEqual(sorted(others), FILES)
        for file in FILES:
            self.assertRegex(file.name, r"^(__init__|[a-z][a-z0-9_]*)\.py$")

    def test_rows_and_signs(self):
        for file in FILES:
            text = file.read_text()
            self.assertLessEqual(len(text.splitlines()), 400, file)
            self.assertIsNone(re.search(r"[^ -~\n]", text), file)
            self.assertLessEqual(max(len(line) for line in text.splitlines()), 120, file)
            self.assertIsNone(re.search(rf"\b({WORDS})\b|dataclass|overload|contextmanager", text), file)

    def test_what_is_not_written(self):
        for file, node in nodes():
            where = (file.name, getattr(node, "lineno", 0))
            self.assertNotIsInstance(node, FORBIDDEN, where)
            if isinstance(node, (ast.For, ast.While)):
                self.assertEqual(node.orelse, [], where)
            if isinstance(node, ast.Assign):
                self.assertEqual(len(node.targets), 1, where)
            if isinstance(node, ast.Constant):
                self.assertNotIsInstance(node.value, (float, bytes, complex), where)
            if isinstance(node, ast.Name):
                self.assertFalse(node.id.startswith("_"), where)

    def test_functions_and_classes(self):
        for file, node in nodes():
            if isinstance(node, (ast.FunctionDef, ast.ClassDef)):
                self.assertEqual(node.decorator_list, [], node.name)
            if isinstance(node, ast.FunctionDef):
                self.assertLessEqual(node.end_lineno - node.lineno + 1, 40, node.name)
                given = node.args
                self.assertFalse(given.vararg or given.kwarg or given.kwonlyargs or given.posonlyargs, node.name)

    def test_imports(self):
        for file, node in nodes():
            if isinstance(node, ast.ImportFrom):
                self.assertEqual(node.level, 0, file)
                self.assertRegex(node.module, r"^longestrun\.[a-z]", file)

    def test_names_called(self):
        methods = METHODS | own_methods()
        for file, tree in trees():
            own = {node.name for node in ast.walk(tree) if isinstance(node, (ast.FunctionDef, ast.ClassDef))}
            own |= {name.name for node in ast.walk(tree) if isinstance(node, ast.ImportFrom) for name in node.names}
            for node in ast.walk(tree):
                if isinstance(node, ast.Call) and isinstance(node.func, ast.Name):
                    self.assertIn(node.func.id, BUILT_IN | ERRORS | own, (file.name, node.lineno))
                elif isinstance(node, ast.Call):
                    self.assertIn(node.func.attr, methods, (file.name, node.lineno))

    def test_no_name_is_a_method_and_a_value(self):
        self.assertEqual(own_methods() & own_values(), set())
        self.assertEqual((own_methods() | own_values()) & METHODS, set())

    def test_errors(self):
        own = {node.name for file, node in nodes() if isinstance(node, ast.ClassDef)}
        for file, node in nodes():
            if isinstance(node, ast.Try):
                self.assertEqual(node.finalbody, [], file)
            if isinstance(node, ast.ExceptHandler):
                self.assertIn(node.type.id, own, file)
            if isinstance(node, ast.Raise):
                self.assertIn(node.exc.func.id, own, file)

    def test_the_top_of_a_file_keeps_plain_values(self):
        plain = (ast.FunctionDef, ast.ClassDef, ast.ImportFrom, ast.Assign)
        for file, tree in trees():
            self.assertIsNotNone(ast.get_docstring(tree), file)
            names = []
            for node in tree.body[1:]:
                self.assertIsInstance(node, plain, (file.name, node.lineno))
                if isinstance(node, ast.Assign):
                    ast.literal_eval(node.value)
                    names.append(node.targets[0].id)
            self.assertEqual(len(names), len(set(names)), file)


if __name__ == "__main__":
    unittest.main()
