"""The form of the package's files: the rules of the language that a short test can see."""

import ast
import pathlib
import re
import unittest

ROOT = pathlib.Path(__file__).resolve().parent.parent
PACKAGE = ROOT / "surelyorders"

BARRED = re.compile(
    r"\b(type|typing|typing_extensions|enum|Enum|IntEnum|StrEnum|Flag|IntFlag|Generic|Protocol|ABC"
    r"|ABCMeta|namedtuple|NamedTuple|TypedDict|TYPE_CHECKING|abstractmethod)\b"
    r"|dataclass|overload|contextmanager|_wall"
)


def sources():
    return sorted(PACKAGE.glob("*.py"))


class FormTest(unittest.TestCase):
    def test_the_folder_holds_only_modules(self):
        for path in PACKAGE.iterdir():
            if path.name != "__pycache__":
                self.assertRegex(path.name, r"\A[a-z_][a-z0-9_]*\.py\Z")

    def test_sizes_and_characters(self):
        for path in sources():
            text = path.read_bytes().decode("ascii")
            self.assertLessEqual(len(text.splitlines()), 399, path.name)
            self.assertIsNone(re.search(r"[^ -~\n]", text), path.name)
            for line in text.splitlines():
                self.assertLessEqual(len(line), 120, path.name)

    def test_functions_are_short(self):
        for path in sources():
            for node in ast.walk(ast.parse(path.read_text())):
                if isinstance(node, ast.FunctionDef):
                    lines = node.end_lineno - node.lineno + 1
                    self.assertLessEqual(lines, 40, f"{path.name} {node.name}")

    def test_imports_are_from_the_package(self):
        allowed = {"heapq", "math", "itertools", "collections", "__future__"}
        for path in sources():
            for node in ast.walk(ast.parse(path.read_text())):
                self.assertNotIsInstance(node, ast.Import, path.name)
                if isinstance(node, ast.ImportFrom):
                    inside = node.level == 0 and node.module.startswith("surelyorders.")
                    self.assertTrue(inside or node.module in allowed, path.name)

    def test_no_barred_words(self):
        for path in sources():
            self.assertIsNone(BARRED.search(path.read_text()), path.name)

    def test_no_float_and_no_division(self):
        for path in sources():
            for node in ast.walk(ast.parse(path.read_text())):
                self.assertNotIsInstance(node, ast.Div, path.name)
                if isinstance(node, ast.Constant):
                    self.assertNotIsInstance(node.value, (float, complex), path.name)


if __name__ == "__main__":
    unittest.main()
