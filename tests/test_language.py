"""Some rules of the language that a test sees at once: files, sizes, signs, words, imports, names, calls."""

import ast
import builtins
import pathlib
import re
import unittest

PACKAGE = pathlib.Path(__file__).resolve().parent.parent / "climborsink"
FILES = sorted(PACKAGE.glob("*.py"))

BARRED_WORDS = re.compile(
    r"\b(type|typing|typing_extensions|enum|Enum|IntEnum|StrEnum|Flag|IntFlag|Generic|Protocol|ABC|ABCMeta"
    r"|namedtuple|NamedTuple|TypedDict|TYPE_CHECKING|abstractmethod)\b|dataclass|overload|contextmanager")

ALLOWED_BUILTINS = set(
    "len range enumerate zip min max sum abs sorted reversed int str bool bytes list tuple dict set frozenset"
    " isinstance ord repr any all divmod Exception ValueError TypeError KeyError IndexError LookupError"
    " ZeroDivisionError ArithmeticError OverflowError RuntimeError NotImplementedError AttributeError"
    " StopIteration NotImplemented".split())

BARRED_NODES = (
    ast.AsyncFunctionDef, ast.AsyncFor, ast.AsyncWith, ast.Await, ast.Global, ast.GeneratorExp, ast.AnnAssign)


def bound_names(tree):
    """All names that parameters, targets and definitions of a file bind, but for imports and methods."""
    names = [node.id for node in ast.walk(tree) if isinstance(node, ast.Name) and isinstance(node.ctx, ast.Store)]
    names += [node.arg for node in ast.walk(tree) if isinstance(node, ast.arg)]
    methods = [made for node in ast.walk(tree) if isinstance(node, ast.ClassDef) for made in node.body]
    return names + [
        node.name for node in ast.walk(tree)
        if isinstance(node, (ast.FunctionDef, ast.ClassDef)) and node not in methods]


def imported_names(tree):
    return [alias.name for node in ast.walk(tree) if isinstance(node, ast.ImportFrom) for alias in node.names]


def nodes_of(path, kinds):
    return [node for node in ast.walk(ast.parse(path.read_text())) if isinstance(node, kinds)]


class Language(unittest.TestCase):
    def test_the_folder_holds_python_files_alone(self):
        others = [path.name for path in PACKAGE.iterdir() if path.suffix != ".py"]
        self.assertIn(others, ([], ["__pycache__"]))
        self.assertIn(PACKAGE / "__init__.py", FILES)

    def test_sizes(self):
        for path in FILES:
            rows = path.read_text().split("\n")
            self.assertLessEqual(len(rows), 400, path)
            self.assertLessEqual(max(len(row) for row in rows), 120, path)
            for node in nodes_of(path, ast.FunctionDef):
                self.assertLessEqual(node.end_lineno - node.lineno + 1, 40, node.name)

    def test_signs_and_words(self):
        for path in FILES:
            text = path.read_text()
            self.assertEqual(re.findall(r"[^ -~\n]", text), [], path)
            self.assertIsNone(BARRED_WORDS.search(text), path)

    def test_imports_name_the_file_that_defines_the_name(self):
        for path in FILES:
            self.assertEqual(nodes_of(path, ast.Import), [], path)
            for node in nodes_of(path, ast.ImportFrom):
                folder, _, module = node.module.partition(".")
                self.assertEqual((folder, node.level), ("climborsink", 0), path)
                defined = ast.parse((PACKAGE / f"{module}.py").read_text()).body
                names = [made.name for made in defined if isinstance(made, (ast.FunctionDef, ast.ClassDef))]
                names += [made.targets[0].id for made in defined if isinstance(made, ast.Assign)]
                for alias in node.names:
                    self.assertIn(alias.name, names, path)

    def test_names(self):
        for path in FILES:
            tree = ast.parse(path.read_text())
            names, imports = bound_names(tree), imported_names(tree)
            for name in names:
                self.assertFalse(name.startswith("_"), (path, name))
                self.assertFalse(hasattr(builtins, name), (path, name))
                self.assertNotIn(name, imports, path)
            for node in nodes_of(path, ast.Name):
                self.assertIn(node.id, {*names, *imports, *ALLOWED_BUILTINS}, path)

    def test_module_level_names_are_bound_once(self):
        for path in FILES:
            tree = ast.parse(path.read_text())
            names = imported_names(tree)
            for node in tree.body:
                if isinstance(node, (ast.FunctionDef, ast.ClassDef)):
                    names.append(node.name)
                elif isinstance(node, ast.Assign):
                    names += [target.id for target in node.targets]
                else:
                    self.assertIsInstance(node, (ast.ImportFrom, ast.Expr), path)
            self.assertEqual(len(names), len(set(names)), path)

    def test_no_file_imports_itself_through_others(self):
        imports = {
            path.stem: {node.module.partition(".")[2] for node in nodes_of(path, ast.ImportFrom)} for path in FILES}
        while imports:
            free = [name for name in imports if not imports[name] & set(imports)]
            self.assertNotEqual(free, [], imports)
            for name in free:
                del imports[name]

    def test_nodes_that_are_barred_or_not_needed(self):
        for path in FILES:
            self.assertEqual(nodes_of(path, BARRED_NODES), [], path)
            for node in nodes_of(path, ast.FunctionDef):
                self.assertEqual((node.decorator_list, node.args.posonlyargs), ([], []), node.name)
            for node in nodes_of(path, ast.Compare):
                for sign, other in zip(node.ops, node.comparators):
                    if isinstance(sign, (ast.Is, ast.IsNot)):
                        self.assertIn(ast.unparse(other), ("None", "True", "False"), path)

    def test_no_float_and_no_division(self):
        for path in FILES:
            self.assertEqual(nodes_of(path, ast.Div), [], path)
            for node in nodes_of(path, ast.Constant):
                self.assertNotIsInstance(node.value, (float, complex), path)


if __name__ == "__main__":
    unittest.main()
