"""Of the language's rules those that a short look at the package's files can see."""

import ast
import pathlib
import re
import unittest

PACKAGE = pathlib.Path(__file__).resolve().parent.parent / "keyswithin"
BARRED = re.compile(
    r"\b(type|typing|typing_extensions|enum|Enum|IntEnum|StrEnum|Flag|IntFlag|Generic|Protocol|ABC|ABCMeta"
    r"|namedtuple|NamedTuple|TypedDict|TYPE_CHECKING|abstractmethod)\b|dataclass|overload|contextmanager"
)
BUILTINS = set(dir(__builtins__) if not isinstance(__builtins__, dict) else __builtins__)
CALLED = {
    "len", "range", "enumerate", "zip", "min", "max", "sum", "abs", "sorted", "reversed", "int", "str", "bool",
    "list", "tuple", "dict", "set", "isinstance", "ord", "repr", "any", "all", "divmod", "ValueError", "iter",
    "next", "super", "property", "staticmethod", "classmethod", "NotImplemented",
}


def files():
    return [path for path in sorted(PACKAGE.iterdir()) if path.name != "__pycache__"]


def defined_in(module):
    """The names that a module of the package binds itself."""
    body = ast.parse((PACKAGE / (module + ".py")).read_text("utf-8")).body
    named = [part.name for part in body if isinstance(part, (ast.FunctionDef, ast.ClassDef))]
    return named + [target.id for part in body if isinstance(part, ast.Assign) for target in part.targets]


def methods_of(module, name):
    """The methods that stand in the body of a class itself."""
    body = ast.parse((PACKAGE / (module + ".py")).read_text("utf-8")).body
    found = [part for part in body if isinstance(part, ast.ClassDef) and part.name == name]
    return [part.name for part in found[0].body if isinstance(part, ast.FunctionDef)]


def nodes():
    for path in files():
        for node in ast.walk(ast.parse(path.read_text("utf-8"))):
            yield path.name, node


class Language(unittest.TestCase):
    def test_files_and_characters(self):
        self.assertIn("__init__.py", [path.name for path in files()])
        for path in files():
            self.assertRegex(path.name, r"\A[a-z0-9_]+\.py\Z")
            text = path.read_text("utf-8")
            self.assertRegex(text, r"\A[ -~\n]*\Z", path.name)
            self.assertIsNone(BARRED.search(text), path.name)

    def test_sizes(self):
        for path in files():
            lines = path.read_text("utf-8").splitlines()
            self.assertLessEqual(len(lines), 399, path.name)
            self.assertLessEqual(max(len(line) for line in lines), 120, path.name)
        for name, node in nodes():
            if isinstance(node, ast.FunctionDef):
                self.assertLessEqual(node.end_lineno - node.lineno + 1, 40, (name, node.name))

    def test_imports_only_from_the_package(self):
        for name, node in nodes():
            self.assertNotIsInstance(node, ast.Import, name)
            if isinstance(node, ast.ImportFrom):
                self.assertEqual(node.level, 0, name)
                self.assertRegex(node.module, r"\Akeyswithin\.[a-z]+\Z", name)
                for part in node.names:
                    self.assertIn(part.name, defined_in(node.module.split(".")[1]), name)

    def test_builtins(self):
        for name, node in nodes():
            if isinstance(node, ast.Name) and node.id in BUILTINS:
                self.assertIn(node.id, CALLED, name)
                self.assertIsInstance(node.ctx, ast.Load, (name, node.id))
            if isinstance(node, ast.arg):
                self.assertNotIn(node.arg, BUILTINS, name)

    def test_interface_stands_where_it_is_listed(self):
        listed = {
            "houses": ("is_house", "rounds", "shut", "lost"),
            "breaking": ("fewest", "shut_with", "is_kept", "kept_lots"),
            "layings": ("is_laying", "rounds_of", "with_rounds", "with_size", "together"),
            "exchanges": ("behind", "row_to", "row_to_rounds"),
            "kept": ("Kept",),
        }
        for module, functions in listed.items():
            for function in functions:
                self.assertIn(function, defined_in(module))
        methods = (
            "open_box", "break_box", "shut_box", "take", "lay", "back", "hand", "opened", "broken", "inside",
            "can_all", "__init__", "__len__", "__eq__",
        )
        self.assertLessEqual(set(methods), set(methods_of("kept", "Kept")))

    def test_no_generators(self):
        # Beside a class that has its own equality any, all, sum and the like take a list.
        for name, node in nodes():
            self.assertNotIsInstance(node, (ast.GeneratorExp, ast.Yield, ast.YieldFrom), name)

    def test_no_state_at_module_level(self):
        for path in files():
            for part in ast.parse(path.read_text("utf-8")).body:
                allowed = (ast.FunctionDef, ast.ClassDef, ast.ImportFrom, ast.Assign, ast.Expr)
                self.assertIsInstance(part, allowed, path.name)
                if isinstance(part, (ast.Assign, ast.Expr)):
                    self.assertIsInstance(part.value, ast.Constant, path.name)
        for name, node in nodes():
            self.assertNotIsInstance(node, ast.Global, name)
            if isinstance(node, ast.FunctionDef):
                self.assertEqual(node.decorator_list, [], name)


if __name__ == "__main__":
    unittest.main()
