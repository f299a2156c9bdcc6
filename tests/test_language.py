"""Some rules of the language that a test sees at once: files, sizes, signs, words, imports, names, classes."""

import ast
import builtins
import pathlib
import re
import unittest

PACKAGE = pathlib.Path(__file__).resolve().parent.parent / "climborsink"
FILES = sorted(PACKAGE.glob("*.py"))

BARRED_WORDS = re.compile(
    r"\b(type|typing|typing_extensions|enum|Enum|IntEnum|StrEnum|Flag|IntFlag|Generic|Protocol|ABC|ABCMeta"
    r"|namedtuple|NamedTuple|TypedDict|TYPE_CHECKING|abstractmethod)\b|dataclass|overload|contextmanager")

ALLOWED_BUILTINS = set(
    "len range enumerate zip min max sum abs sorted reversed int str bool bytes list tuple dict set frozenset"
    " isinstance ord repr any all divmod Exception ValueError TypeError KeyError IndexError LookupError"
    " ZeroDivisionError ArithmeticError OverflowError RuntimeError NotImplementedError AttributeError"
    " StopIteration NotImplemented".split())

BARRED_NODES = (
    ast.AsyncFunctionDef, ast.AsyncFor, ast.AsyncWith, ast.Await, ast.Global, ast.GeneratorExp, ast.AnnAssign)

BUILTIN_METHODS = set(
    "append clear copy count endswith extend find get index insert isalnum isalpha isdigit islower isspace isupper"
    " items join keys ljust lower lstrip partition pop remove replace reverse rfind rjust rpartition rsplit rstrip"
    " setdefault split splitlines startswith strip update upper values zfill bit_length title capitalize swapcase"
    " casefold center expandtabs removeprefix removesuffix rindex isascii isdecimal isnumeric istitle isidentifier"
    " isprintable add discard".split())

FREE_ATTRIBUTES = set("count index title find get join lower upper split strip copy add".split())

DOUBLE_UNDERSCORES = {"__init__", "__eq__", "__repr__", "__str__", "__len__"}

# What the names of builtin values are: no method and no attribute is called so, but those told in L26.
TAKEN = {name for kind in (str, int, list, dict, set, bytes) for name in dir(kind) if not name.startswith("__")}


def bound_names(tree):
    """All names that parameters, targets and definitions of a file bind, but for imports and methods."""
    names = [node.id for node in ast.walk(tree) if isinstance(node, ast.Name) and isinstance(node.ctx, ast.Store)]
    names += [node.arg for node in ast.walk(tree) if isinstance(node, ast.arg)]
    methods = [made for node in ast.walk(tree) if isinstance(node, ast.ClassDef) for made in node.body]
    return names + [
        node.name for node in ast.walk(tree)
        if isinstance(node, (ast.FunctionDef, ast.ClassDef)) and node not in methods]


def imported_names(tree):
    return [alias.name for node in ast.walk(tree) if isinstance(node, ast.ImportFrom) for alias in node.names]


def nodes_of(path, kinds):
    return [node for node in ast.walk(ast.parse(path.read_text())) if isinstance(node, kinds)]


class Language(unittest.TestCase):
    def test_the_folder_holds_python_files_alone(self):
        others = [path.name for path in PACKAGE.iterdir() if path.suffix != ".py"]
        self.assertIn(others, ([], ["__pycache__"]))
        self.assertIn(PACKAGE / "__init__.py", FILES)

    def test_sizes(self):
        for path in FILES:
            rows = path.read_text().split("\n")
            self.assertLessEqual(len(rows), 400, path)
            self.assertLessEqual(max(len(row) for row in rows), 120, path)
            for node in nodes_of(path, ast.FunctionDef):
                self.assertLessEqual(node.end_lineno - node.lineno + 1, 40, node.name)

    def test_signs_and_words(self):
        for path in FILES:
            text = path.read_text()
            self.assertEqual(re.findall(r"[^ -~\n]", text), [], path)
            self.assertIsNone(BARRED_WORDS.search(text), path)

    def test_imports_name_the_file_that_defines_the_name(self):
        for path in FILES:
            self.assertEqual(nodes_of(path, ast.Import), [], path)
            for node in nodes_of(path, ast.ImportFrom):
                folder, _, module = node.module.partition(".")
                self.assertEqual((folder, node.level), ("climborsink", 0), path)
                defined = ast.parse((PACKAGE / f"{module}.py").read_text()).body
                names = [made.name for made in defined if isinstance(made, (ast.FunctionDef, ast.ClassDef))]
                names += [made.targets[0].id for made in defined if isinstance(made, ast.Assign)]
                for alias in node.names:
                    self.assertIn(alias.name, names, path)

    def test_names(self):
        for path in FILES:
            tree = ast.parse(path.read_text())
            names, imports = bound_names(tree), imported_names(tree)
            for name in names:
                self.assertFalse(name.startswith("_"), (path, name))
                self.assertFalse(hasattr(builtins, name), (path, name))
                self.assertNotIn(name, imports, path)
            for node in nodes_of(path, ast.Name):
                self.assertIn(node.id, {*names, *imports, *ALLOWED_BUILTINS}, path)

    def test_module_level_names_are_bound_once(self):
        for path in FILES:
            tree = ast.parse(path.read_text())
            names = imported_names(tree)
            for node in tree.body:
                if isinstance(node, (ast.FunctionDef, ast.ClassDef)):
                    names.append(node.name)
                elif isinstance(node, ast.Assign):
                    names += [target.id for target in node.targets]
                else:
                    self.assertIsInstance(node, (ast.ImportFrom, ast.Expr), path)
            self.assertEqual(len(names), len(set(names)), path)

    def test_no_file_imports_itself_through_others(self):
        imports = {
            path.stem: {node.module.partition(".")[2] for node in nodes_of(path, ast.ImportFrom)} for path in FILES}
        while imports:
            free = [name for name in imports if not imports[name] & set(imports)]
            self.assertNotEqual(free, [], imports)
            for name in free:
                del imports[name]

    def test_nodes_that_are_barred_or_not_needed(self):
        for path in FILES:
            self.assertEqual(nodes_of(path, BARRED_NODES), [], path)
            for node in nodes_of(path, ast.FunctionDef):
                self.assertEqual((node.decorator_list, node.args.posonlyargs), ([], []), node.name)
            for node in nodes_of(path, ast.Compare):
                for sign, other in zip(node.ops, node.comparators):
                    if isinstance(sign, (ast.Is, ast.IsNot)):
                        self.assertIn(ast.unparse(other), ("None", "True", "False"), path)

    def test_no_float_and_no_division(self):
        for path in FILES:
            self.assertEqual(nodes_of(path, ast.Div), [], path)
            for node in nodes_of(path, ast.Constant):
                self.assertNotIsInstance(node.value, (float, complex), path)


def all_nodes(kinds):
    return [node for path in FILES for node in nodes_of(path, kinds)]


def methods_of(made):
    return [node for node in made.body if isinstance(node, ast.FunctionDef)]


def all_methods():
    return [method for made in all_nodes(ast.ClassDef) for method in methods_of(made)]


class LanguageOfClasses(unittest.TestCase):
    def attributes(self, kind):
        return {node.attr for node in all_nodes(ast.Attribute) if isinstance(node.ctx, kind)}

    def called_attributes(self):
        return {node.func.attr for node in all_nodes(ast.Call) if isinstance(node.func, ast.Attribute)}

    def test_a_class_has_a_docstring_and_methods(self):
        for made in all_nodes(ast.ClassDef):
            self.assertEqual((made.decorator_list, made.keywords), ([], []))
            for node in made.body:
                self.assertIsInstance(node, (ast.FunctionDef, ast.Expr), made.name)
            names = [method.name for method in methods_of(made)]
            self.assertEqual(len(names), len(set(names)), made.name)

    def test_names_of_methods_and_attributes(self):
        methods = {method.name for method in all_methods()}
        stored = self.attributes(ast.Store)
        self.assertEqual(methods & stored, set())
        for name in methods:
            self.assertTrue(name in DOUBLE_UNDERSCORES or not name.startswith("_"), name)
            self.assertTrue(name in BUILTIN_METHODS or name not in TAKEN, name)
        for name in stored:
            self.assertTrue(not name.startswith("_") and (name in FREE_ATTRIBUTES or name not in TAKEN), name)

    def test_what_is_read_was_assigned_and_what_is_called_is_a_method(self):
        methods = {method.name for method in all_methods()}
        stored, called = self.attributes(ast.Store), self.called_attributes()
        self.assertLessEqual(called, methods | BUILTIN_METHODS)
        self.assertLessEqual(self.attributes(ast.Load), stored | called)

    def test_methods_with_names_of_builtin_ones_are_called_without_keywords(self):
        for node in all_nodes(ast.Call):
            if isinstance(node.func, ast.Attribute) and node.func.attr in BUILTIN_METHODS:
                self.assertEqual(node.keywords, [], node.func.attr)

    def test_what_a_finally_holds(self):
        for node in all_nodes(ast.Try):
            for kept in node.finalbody:
                self.assertIsInstance(kept, (ast.Assign, ast.AugAssign))
                for part in ast.walk(kept):
                    self.assertNotIsInstance(part, (ast.Call, ast.Subscript, ast.UnaryOp, ast.Compare))

    def test_what_is_caught(self):
        own = {made.name for made in all_nodes(ast.ClassDef)}
        for node in all_nodes(ast.ExceptHandler):
            self.assertIsNotNone(node.type)
            caught = node.type.elts if isinstance(node.type, ast.Tuple) else [node.type]
            for part in caught:
                self.assertIn(part.id, own)

    def test_what_is_raised_is_made_on_the_spot(self):
        own = {made.name for made in all_nodes(ast.ClassDef)}
        for node in all_nodes(ast.Raise):
            self.assertIsInstance(node.exc, ast.Call)
            self.assertIn(node.exc.func.id, own)

    def test_double_underscore_methods_change_nothing(self):
        for method in all_methods():
            if method.name in DOUBLE_UNDERSCORES - {"__init__"}:
                for node in ast.walk(method):
                    self.assertNotIsInstance(node, (ast.Assign, ast.AugAssign, ast.Delete), method.name)
                self.assertIsInstance(method.body[-1], ast.Return)

    def test_len_str_and_repr_return_what_they_may(self):
        starts = {"__len__": ("len(",), "__str__": ("' '.join(", "f'"), "__repr__": ("f'",)}
        for method in all_methods():
            for node in ast.walk(method):
                if method.name in starts and isinstance(node, ast.Return):
                    self.assertTrue(ast.unparse(node.value).startswith(starts[method.name]), ast.unparse(node))

    def test_classes_are_called_or_asked_for_alone(self):
        own = {made.name for made in all_nodes(ast.ClassDef)}
        named = [node for node in all_nodes(ast.Name) if node.id in own]
        fit = [node.func for node in all_nodes(ast.Call) if isinstance(node.func, ast.Name) and node.func.id in own]
        fit += [
            node.args[1] for node in all_nodes(ast.Call)
            if isinstance(node.func, ast.Name) and node.func.id == "isinstance"
            and isinstance(node.args[1], ast.Name) and node.args[1].id in own]
        caught = [
            part for node in all_nodes(ast.ExceptHandler) for part in ast.walk(node.type)
            if isinstance(part, ast.Name)]
        self.assertEqual(len(named), len(fit) + len(caught))


if __name__ == "__main__":
    unittest.main()
