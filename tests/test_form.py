"""The form of the package's files: what of the rules L1 to L28 can be seen without much ado."""

import ast
import builtins
import pathlib
import re
import unittest

PACKAGE = pathlib.Path(__file__).resolve().parent.parent / "wetwalk"

ALLOWED_NODES = {
    "Module", "FunctionDef", "ClassDef", "arguments", "arg", "Lambda", "ImportFrom", "alias",
    "Assign", "AugAssign", "If", "While", "For", "Return", "Break", "Continue", "Pass", "Raise", "Try",
    "ExceptHandler", "Expr", "Constant", "Name", "Load", "Store", "List", "Tuple", "Dict", "BinOp", "UnaryOp",
    "BoolOp", "Compare", "IfExp", "Call", "Attribute", "Subscript", "Slice", "ListComp", "comprehension",
    "keyword", "JoinedStr", "FormattedValue", "Add", "Sub", "Mult", "FloorDiv", "Mod", "BitAnd", "BitOr",
    "BitXor", "LShift", "RShift", "Invert", "USub", "Not", "And", "Or", "Eq", "NotEq", "Lt", "LtE", "Gt", "GtE",
    "In", "NotIn", "Is", "IsNot",
}

ALLOWED_BUILTINS = set(
    "len range enumerate zip min max sum abs sorted reversed int str bool list tuple dict isinstance ord repr any"
    " all divmod ValueError KeyError IndexError LookupError ZeroDivisionError RuntimeError NotImplementedError"
    .split()
)

OWN_METHODS_OF_PYTHON = set(
    "append clear copy count endswith extend find get index insert isalnum isalpha isdigit islower isspace isupper"
    " items join keys ljust lower lstrip partition pop remove replace reverse rfind rjust rpartition rsplit rstrip"
    " setdefault split splitlines startswith strip update upper values zfill bit_length".split()
)

UNUSED_WORDS = re.compile(
    r"\b(type|typing|typing_extensions|enum|Enum|IntEnum|StrEnum|Flag|IntFlag|Generic|Protocol|ABC|ABCMeta"
    r"|namedtuple|NamedTuple|TypedDict|TYPE_CHECKING|abstractmethod)\b|dataclass|overload|contextmanager"
)

UNUSED_NAMES = set(
    "register mro elements open input version_info with_traceback add_note attrgetter breakpoint builtins compile"
    " copyright credits delattr dir eval exec exit gc getattr globals hasattr help id importlib license locals"
    " methodcaller os quit setattr super type vars sys".split()
)


def files():
    return sorted(path for path in PACKAGE.rglob("*") if "__pycache__" not in path.parts)


def nodes(path):
    return list(ast.walk(ast.parse(path.read_text(encoding="utf-8"))))


def names_bound(path):
    """Each name that the file gives to something."""
    found = []
    for node in nodes(path):
        if isinstance(node, ast.Name) and isinstance(node.ctx, ast.Store):
            found.append(node.id)
        elif isinstance(node, ast.arg):
            found.append(node.arg)
        elif isinstance(node, (ast.FunctionDef, ast.ClassDef)):
            found.append(node.name)
        elif isinstance(node, ast.Attribute) and isinstance(node.ctx, ast.Store):
            found.append(node.attr)
    return found


class Form(unittest.TestCase):
    def test_plain_files_alone(self):
        self.assertIn(PACKAGE / "hall.py", files())
        for path in files():
            self.assertRegex(path.name, r"^([a-z][a-z0-9_]*|__init__)\.py$")

    def test_size_and_signs(self):
        for path in files():
            text = path.read_text(encoding="utf-8")
            self.assertRegex(text, r"\A[ -~\n]*\Z")
            rows = text.split("\n")
            self.assertLessEqual(len(rows), 400)
            self.assertLessEqual(max(len(row) for row in rows), 120)
            for node in nodes(path):
                if isinstance(node, ast.FunctionDef):
                    self.assertLessEqual(node.end_lineno - node.lineno + 1, 40, node.name)

    def test_allowed_forms_alone(self):
        for path in files():
            kinds = {type(node).__name__ for node in nodes(path)}
            self.assertEqual(kinds - ALLOWED_NODES, set(), path.name)
            for node in nodes(path):
                if isinstance(node, ast.Assign):
                    self.assertEqual(len(node.targets), 1)
                    self.assertNotIsInstance(node.targets[0], (ast.Tuple, ast.List))
                elif isinstance(node, (ast.For, ast.While)):
                    self.assertEqual(node.orelse, [])
                elif isinstance(node, ast.Constant):
                    self.assertIn(type(node.value), (int, str, bool, type(None)))

    def test_imports_of_the_package_alone(self):
        for path in files():
            for node in nodes(path):
                if isinstance(node, ast.ImportFrom):
                    self.assertEqual(node.level, 0)
                    self.assertTrue(node.module.startswith("wetwalk."))
                    self.assertNotIn("*", [alias.name for alias in node.names])

    def test_names(self):
        of_python = set(dir(builtins))
        for path in files():
            for name in names_bound(path):
                self.assertRegex(name, r"^([A-Za-z][A-Za-z0-9_]*|__init__)$")
                self.assertNotIn(name, of_python | UNUSED_NAMES)
            for node in nodes(path):
                if isinstance(node, ast.Name) and node.id in of_python:
                    self.assertIn(node.id, ALLOWED_BUILTINS)

    def test_no_parameter_or_local_is_called_like_an_import_or_a_class(self):
        for path in files():
            taken = {alias.name for node in nodes(path) if isinstance(node, ast.ImportFrom) for alias in node.names}
            taken |= {node.name for node in nodes(path) if isinstance(node, ast.ClassDef)}
            for node in nodes(path):
                if isinstance(node, ast.Name) and isinstance(node.ctx, ast.Store):
                    self.assertNotIn(node.id, taken)
                elif isinstance(node, ast.arg):
                    self.assertNotIn(node.arg, taken)

    def test_each_import_stands_in_the_file_that_it_is_drawn_from(self):
        for path in files():
            for node in nodes(path):
                if isinstance(node, ast.ImportFrom):
                    source = PACKAGE / (node.module.split(".")[1] + ".py")
                    self.assertLessEqual({alias.name for alias in node.names}, set(names_bound(source)))

    def test_no_method_is_called_like_a_value(self):
        methods, values = set(), set()
        for path in files():
            for node in nodes(path):
                if isinstance(node, ast.ClassDef):
                    methods |= {part.name for part in node.body if isinstance(part, ast.FunctionDef)}
                elif isinstance(node, ast.Attribute) and isinstance(node.ctx, ast.Store):
                    values.add(node.attr)
        self.assertEqual(methods & values, set())

    def test_every_call_is_written(self):
        for path in files():
            self.assertNotIn("NotImplementedError", path.read_text(encoding="utf-8"))

    def test_methods(self):
        own = {name for path in files() for name in names_bound(path)} | {"__init__"}
        for path in files():
            for node in nodes(path):
                if isinstance(node, ast.Attribute):
                    self.assertIn(node.attr, own | OWN_METHODS_OF_PYTHON)

    def test_words(self):
        for path in files():
            self.assertIsNone(UNUSED_WORDS.search(path.read_text(encoding="utf-8")), path.name)


if __name__ == "__main__":
    unittest.main()
