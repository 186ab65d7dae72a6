"""The package keeps to those rules of LANGUAGE.md that can be seen file by file."""

import ast
import builtins
import pathlib
import re
import unittest

PACKAGE = pathlib.Path(__file__).resolve().parent.parent / "flashkeep"
FILES = sorted(PACKAGE.glob("*.py"))
BARRED_WORDS = re.compile(
    r"\b(type|typing|typing_extensions|enum|Enum|IntEnum|StrEnum|Flag|IntFlag|Generic|Protocol|ABC|ABCMeta|namedtuple"
    r"|NamedTuple|TypedDict|TYPE_CHECKING|abstractmethod)\b|dataclass|overload|contextmanager"
)
LET_BUILTINS = """
len range enumerate zip min max sum abs sorted reversed int str bool list tuple dict set isinstance ord repr any all
divmod ValueError KeyError IndexError LookupError ZeroDivisionError StopIteration
""".split()
BARRED_NODES = (ast.Global, ast.AsyncFunctionDef, ast.Await, ast.Div, ast.Import)


def nodes():
    for path in FILES:
        for node in ast.walk(ast.parse(path.read_text("utf-8"))):
            yield f"{path.name}:{getattr(node, 'lineno', 0)}", node


def imports_of(path):
    """The package's modules and names that a file imports."""
    for node in ast.walk(ast.parse(path.read_text("utf-8"))):
        if isinstance(node, ast.ImportFrom):
            yield node.module.removeprefix("flashkeep."), [name.name for name in node.names]


def bound_in(function):
    """The names of a function's parameters and variables."""
    for node in ast.walk(function):
        if isinstance(node, ast.arg):
            yield node.arg
        elif isinstance(node, ast.Name) and isinstance(node.ctx, ast.Store):
            yield node.id


class LanguageTest(unittest.TestCase):
    def test_the_folder_holds_modules_alone(self):
        names = [path.name for path in PACKAGE.iterdir() if path.name != "__pycache__"]
        self.assertIn("__init__.py", names)
        for name in names:
            self.assertRegex(name, r"^[a-z0-9_]+\.py$")

    def test_characters_and_sizes(self):
        for path in FILES:
            text = path.read_bytes().decode("utf-8")
            rows = text.split("\n")
            self.assertRegex(text, r"\A[ -~\n]*\Z", path.name)
            self.assertLessEqual(len(rows), 400, path.name)
            self.assertLessEqual(max(len(row) for row in rows), 120, path.name)
            self.assertIsNone(BARRED_WORDS.search(text), path.name)

    def test_functions_are_small(self):
        for where, node in nodes():
            if isinstance(node, ast.FunctionDef):
                self.assertLessEqual(node.end_lineno - node.lineno + 1, 40, where)

    def test_imports_are_of_the_package_by_full_names(self):
        for where, node in nodes():
            if isinstance(node, ast.ImportFrom):
                self.assertEqual(node.level, 0, where)
                self.assertRegex(node.module, r"^flashkeep\.[a-z]+$", where)
                self.assertNotIn("*", [name.name for name in node.names], where)

    def test_imports_name_the_file_that_defines_the_name(self):
        for path in FILES:
            for module, names in imports_of(path):
                body = ast.parse((PACKAGE / f"{module}.py").read_text("utf-8")).body
                defined = [node.name for node in body if isinstance(node, (ast.FunctionDef, ast.ClassDef))]
                defined += [node.targets[0].id for node in body if isinstance(node, ast.Assign)]
                self.assertLessEqual(set(names), set(defined), path.name)

    def test_no_files_import_from_each_other(self):
        left = {path.stem: {module for module, _ in imports_of(path)} for path in FILES}
        while left:
            leaves = {stem for stem in left if not left[stem] & set(left)}
            self.assertTrue(leaves, sorted(left))
            left = {stem: left[stem] for stem in left if stem not in leaves}

    def test_no_variable_has_the_name_of_a_class_or_an_import(self):
        for path in FILES:
            tree = ast.parse(path.read_text("utf-8"))
            barred = {node.name for node in ast.walk(tree) if isinstance(node, ast.ClassDef)}
            barred |= {name for _, names in imports_of(path) for name in names}
            for node in ast.walk(tree):
                if isinstance(node, ast.FunctionDef):
                    self.assertFalse(barred & set(bound_in(node)), f"{path.name}:{node.lineno}")

    def test_no_name_is_a_method_and_an_attribute(self):
        methods = set()
        attributes = set()
        for _, node in nodes():
            if isinstance(node, ast.ClassDef):
                methods |= {row.name for row in node.body if isinstance(row, ast.FunctionDef)}
            elif isinstance(node, ast.Attribute) and isinstance(node.ctx, ast.Store):
                attributes.add(node.attr)
        self.assertFalse(methods & attributes)

    def test_no_barred_statement_float_or_escape(self):
        for where, node in nodes():
            self.assertNotIsInstance(node, BARRED_NODES, where)
            if isinstance(node, ast.Constant):
                self.assertNotIsInstance(node.value, (float, complex), where)
                self.assertNotIn("%", str(node.value), where)

    def test_names(self):
        for where, node in nodes():
            bound = ""
            if isinstance(node, (ast.FunctionDef, ast.ClassDef)):
                bound = node.name if not re.match(r"^__[a-z]+__$", node.name) else ""
            elif isinstance(node, ast.arg):
                bound = node.arg
            elif isinstance(node, ast.Name) and isinstance(node.ctx, ast.Store):
                bound = node.id
            self.assertFalse(bound.startswith("_"), where)
            if not isinstance(node, ast.FunctionDef):
                self.assertFalse(hasattr(builtins, bound), where)

    def test_builtins_that_are_used(self):
        for where, node in nodes():
            if isinstance(node, ast.Name) and isinstance(node.ctx, ast.Load) and hasattr(builtins, node.id):
                self.assertIn(node.id, LET_BUILTINS, where)

    def test_is_stands_beside_none_and_truths_alone(self):
        for where, node in nodes():
            if isinstance(node, ast.Compare) and any(isinstance(sign, (ast.Is, ast.IsNot)) for sign in node.ops):
                for side in node.comparators:
                    self.assertTrue(isinstance(side, ast.Constant) and side.value in (None, True, False), where)


if __name__ == "__main__":
    unittest.main()
