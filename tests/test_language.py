"""Some rules of the language that a test sees at once: files, sizes, signs, words, imports."""

import ast
import pathlib
import re
import unittest

PACKAGE = pathlib.Path(__file__).resolve().parent.parent / "climborsink"
FILES = sorted(PACKAGE.glob("*.py"))

BARRED_WORDS = re.compile(
    r"\b(type|typing|typing_extensions|enum|Enum|IntEnum|StrEnum|Flag|IntFlag|Generic|Protocol|ABC|ABCMeta"
    r"|namedtuple|NamedTuple|TypedDict|TYPE_CHECKING|abstractmethod)\b|dataclass|overload|contextmanager")


def nodes_of(path, kinds):
    return [node for node in ast.walk(ast.parse(path.read_text())) if isinstance(node, kinds)]


class Language(unittest.TestCase):
    def test_the_folder_holds_python_files_alone(self):
        others = [path.name for path in PACKAGE.iterdir() if path.suffix != ".py"]
        self.assertIn(others, ([], ["__pycache__"]))
        self.assertIn(PACKAGE / "__init__.py", FILES)

    def test_sizes(self):
        for path in FILES:
            rows = path.read_text().split("\n")
            self.assertLessEqual(len(rows), 400, path)
            self.assertLessEqual(max(len(row) for row in rows), 120, path)
            for node in nodes_of(path, ast.FunctionDef):
                self.assertLessEqual(node.end_lineno - node.lineno + 1, 40, node.name)

    def test_signs_and_words(self):
        for path in FILES:
            text = path.read_text()
            self.assertEqual(re.findall(r"[^ -~\n]", text), [], path)
            self.assertIsNone(BARRED_WORDS.search(text), path)

    def test_imports_name_the_file_that_defines_the_name(self):
        for path in FILES:
            self.assertEqual(nodes_of(path, ast.Import), [], path)
            for node in nodes_of(path, ast.ImportFrom):
                folder, _, module = node.module.partition(".")
                self.assertEqual((folder, node.level), ("climborsink", 0), path)
                defined = ast.parse((PACKAGE / f"{module}.py").read_text()).body
                names = [made.name for made in defined if isinstance(made, (ast.FunctionDef, ast.ClassDef))]
                names += [made.targets[0].id for made in defined if isinstance(made, ast.Assign)]
                for alias in node.names:
                    self.assertIn(alias.name, names, path)

    def test_no_float_and_no_division(self):
        for path in FILES:
            self.assertEqual(nodes_of(path, ast.Div), [], path)
            for node in nodes_of(path, ast.Constant):
                self.assertNotIsInstance(node.value, (float, complex), path)


if __name__ == "__main__":
    unittest.main()
