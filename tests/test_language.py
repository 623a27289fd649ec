"""The rules of the language that can be told by looking at the files one by one, and at their imports."""

import ast
import builtins
import pathlib
import re
import unittest
import warnings

PACKAGE = pathlib.Path(__file__).resolve().parent.parent / "kindstocome"

BUILTINS = set(
    "len range enumerate zip min max sum abs sorted reversed int str bool bytes list tuple dict set frozenset "
    "isinstance ord repr any all divmod iter next property super staticmethod classmethod Exception ValueError "
    "TypeError KeyError IndexError LookupError ZeroDivisionError ArithmeticError OverflowError RuntimeError "
    "NotImplementedError AttributeError StopIteration NotImplemented".split())

DOUBLE = set("__init__ __eq__ __repr__ __str__ __len__ __enter__ __exit__ __call__ __iter__".split())

WORDS = (
    "type typing typing_extensions enum Enum IntEnum StrEnum Flag IntFlag Generic Protocol ABC ABCMeta namedtuple "
    "NamedTuple TypedDict TYPE_CHECKING abstractmethod").split()

UNUSED = set(
    "register mro elements open input law version_info with_traceback add_note attrgetter breakpoint builtins compile "
    "copyright credits delattr dir eval exec exit gc getattr globals hasattr help id importlib license locals "
    "methodcaller os quit setattr type vars sys format format_map".split())

# The methods of builtin values that may be called; those that modify a set are left out, as Shelf has a method add.
CALLED = set(
    "append clear copy count endswith extend find get index insert isalnum isalpha isdigit islower isspace isupper "
    "items join keys ljust lower lstrip partition pop remove replace reverse rfind rjust rpartition rsplit rstrip setdefault "
    "split splitlines startswith strip update upper values zfill bit_length".split())

CAUGHT = ("KeyError", "ZeroDivisionError")

WANT_LISTS = ("any", "all", "min", "max", "sum", "sorted")

BARRED = (
    ast.Global, ast.AsyncFunctionDef, ast.AsyncFor, ast.AsyncWith, ast.Await, ast.Import, ast.Div, ast.MatMult,
)


def files():
    return sorted(PACKAGE.glob("*.py"))


def trees():
    return [(path.name, ast.parse(path.read_text())) for path in files()]


def nodes():
    for name, tree in trees():
        for node in ast.walk(tree):
            yield f"{name}:{getattr(node, 'lineno', 0)}", node


def own_errors():
    """The names of the error classes of the package."""
    return [node.name for name, tree in trees() if name == "errors.py" for node in tree.body if hasattr(node, "bases")]


def class_members():
    """The names of the methods and properties of all classes, and those of the attributes that are assigned."""
    methods, stored = set(), set()
    for at, node in nodes():
        if isinstance(node, ast.ClassDef):
            methods.update(item.name for item in node.body if isinstance(item, ast.FunctionDef))
        if isinstance(node, ast.Attribute) and isinstance(node.ctx, ast.Store):
            stored.add(node.attr)
    return methods, stored


class TestFiles(unittest.TestCase):
    def test_the_folder_holds_files_of_python_alone(self):
        for path in PACKAGE.iterdir():
            if path.name != "__pycache__":
                self.assertRegex(path.name, r"^[a-z_][a-z0-9_]*\.py$")
        self.assertTrue((PACKAGE / "__init__.py").is_file())

    def test_characters_and_sizes(self):
        for path in files():
            text = path.read_text()
            self.assertRegex(text, r"\A[ -~\n]*\Z", path.name)
            self.assertLessEqual(len(text.splitlines()), 399, path.name)
            self.assertLessEqual(max(len(line) for line in text.splitlines()), 120, path.name)

    def test_words(self):
        pattern = r"\b(" + "|".join(WORDS) + r")\b|dataclass|overload|contextmanager"
        for path in files():
            self.assertIsNone(re.search(pattern, path.read_text()), path.name)

    def test_no_warnings(self):
        for path in files():
            with warnings.catch_warnings():
                warnings.simplefilter("error")
                compile(path.read_text(), path.name, "exec")


class TestImports(unittest.TestCase):
    """What the imports of all files show together."""

    def imported(self, tree):
        """The pairs (module, name) that a file imports."""
        out = []
        for node in tree.body:
            if isinstance(node, ast.ImportFrom):
                out.extend((node.module.split(".")[1], alias.name) for alias in node.names)
        return out

    def defined(self, tree):
        names = [node.name for node in tree.body if isinstance(node, (ast.FunctionDef, ast.ClassDef))]
        return names + [node.targets[0].id for node in tree.body if isinstance(node, ast.Assign)]

    def test_from_the_very_file_that_defines_the_name(self):
        by_file = dict(trees())
        for file, tree in by_file.items():
            for module, name in self.imported(tree):
                self.assertIn(name, self.defined(by_file[f"{module}.py"]), file)

    def test_bound_once(self):
        for file, tree in trees():
            names = self.defined(tree) + [name for module, name in self.imported(tree)]
            self.assertEqual(len(names), len(set(names)), file)

    def test_all_are_used(self):
        for file, tree in trees():
            read = {node.id for node in ast.walk(tree) if isinstance(node, ast.Name)}
            for module, name in self.imported(tree):
                self.assertIn(name, read, file)

    def test_not_in_a_circle(self):
        ahead = {file[:-3]: {module for module, name in self.imported(tree)} for file, tree in trees()}
        while ahead:
            free = [module for module in ahead if not ahead[module] & set(ahead)]
            self.assertNotEqual(free, [], ahead)
            for module in free:
                del ahead[module]

    def test_no_local_name_is_that_of_a_function_class_or_import_of_its_file(self):
        for file, tree in trees():
            taken = set(self.defined(tree) + [name for module, name in self.imported(tree)])
            for function in [node for node in ast.walk(tree) if isinstance(node, (ast.FunctionDef, ast.Lambda))]:
                for node in ast.walk(function):
                    if isinstance(node, ast.arg):
                        self.assertNotIn(node.arg, taken, file)
                    if isinstance(node, ast.Name) and isinstance(node.ctx, ast.Store):
                        self.assertNotIn(node.id, taken, file)


class TestNodes(unittest.TestCase):
    def test_statements_and_signs(self):
        for at, node in nodes():
            self.assertNotIsInstance(node, BARRED, at)
            if isinstance(node, ast.Constant):
                self.assertNotIsInstance(node.value, (float, complex), at)
                if isinstance(node.value, str):
                    self.assertNotIn("%", node.value, at)

    def test_short_functions(self):
        for at, node in nodes():
            if isinstance(node, ast.FunctionDef):
                self.assertLessEqual(node.end_lineno - node.lineno + 1, 40, at)

    def test_imports(self):
        for at, node in nodes():
            if isinstance(node, ast.ImportFrom):
                self.assertEqual(node.level, 0, at)
                module = node.module.split(".")
                self.assertEqual((len(module), module[0]), (2, "kindstocome"), at)
                self.assertTrue((PACKAGE / f"{module[1]}.py").is_file(), at)

    def test_is(self):
        for at, node in nodes():
            if isinstance(node, ast.Compare):
                for sign, right in zip(node.ops, node.comparators):
                    if isinstance(sign, (ast.Is, ast.IsNot)):
                        self.assertIsInstance(right, ast.Constant, at)
                        self.assertIn(right.value, (None, True, False), at)

    def test_raise_creates_its_error_on_the_spot(self):
        for at, node in nodes():
            if isinstance(node, ast.Raise) and node.exc is not None:
                self.assertIsInstance(node.exc, ast.Call, at)
                self.assertIn(node.exc.func.id, own_errors(), at)
                self.assertFalse(node.exc.keywords, at)

    def test_own_errors_are_caught(self):
        for at, node in nodes():
            if isinstance(node, ast.ExceptHandler):
                self.assertIsNotNone(node.type, at)
                for caught in getattr(node.type, "elts", [node.type]):
                    self.assertIn(caught.id, [*own_errors(), *CAUGHT], at)

    def test_super_is_called_for_a_method(self):
        for at, node in nodes():
            for child in ast.iter_child_nodes(node):
                if isinstance(child, ast.Call) and getattr(child.func, "id", None) == "super":
                    self.assertEqual(child.args, [], at)
                    self.assertIsInstance(node, ast.Attribute, at)

    def test_stars_and_slices_of_calls(self):
        for at, node in nodes():
            if isinstance(node, ast.Call):
                for argument in node.args:
                    if isinstance(argument, ast.Starred):
                        self.assertIsInstance(argument.value, ast.Name, at)

    def test_comprehensions_stand_in_functions(self):
        for file, tree in trees():
            for statement in tree.body:
                if not isinstance(statement, (ast.FunctionDef, ast.ClassDef)):
                    for node in ast.walk(statement):
                        self.assertNotIsInstance(node, (ast.ListComp, ast.SetComp, ast.DictComp, ast.GeneratorExp),
                            file)

    def test_iterated_at_once(self):
        """zip, enumerate, reversed and range stand in the head of a loop, or as the one thing a builtin is passed."""
        for at, node in nodes():
            if isinstance(node, (ast.Assign, ast.Return)) and isinstance(node.value, ast.Call):
                name = getattr(node.value.func, "id", None)
                self.assertNotIn(name, ("zip", "enumerate", "reversed", "range", "set"), at)

    def test_lists_where_a_class_has_eq(self):
        for at, node in nodes():
            if isinstance(node, ast.Call) and isinstance(node.func, ast.Name) and node.func.id in WANT_LISTS:
                for argument in node.args:
                    self.assertNotIsInstance(argument, ast.GeneratorExp, at)
            if isinstance(node, ast.Attribute):
                self.assertNotEqual(node.attr, "sort", at)


class TestNames(unittest.TestCase):
    def test_builtins(self):
        for at, node in nodes():
            if isinstance(node, ast.Name) and node.id in vars(builtins):
                self.assertIn(node.id, BUILTINS, at)
                self.assertIsInstance(node.ctx, ast.Load, at)
            for name in self.bound(node):
                self.assertNotIn(name, vars(builtins), at)

    def test_plain_names(self):
        for at, node in nodes():
            for name in [*self.bound(node), *self.attributes(node)]:
                self.assertNotIn(name, UNUSED, at)
                self.assertTrue(name in DOUBLE or not name.startswith("_"), (at, name))

    def test_no_method_is_an_attribute_elsewhere(self):
        methods, stored = class_members()
        self.assertEqual(methods & stored, set())

    def test_attributes_that_are_read(self):
        methods, stored = class_members()
        for at, node in nodes():
            if isinstance(node, ast.Attribute) and isinstance(node.ctx, ast.Load):
                self.assertIn(node.attr, methods | stored | CALLED, at)

    def test_methods_that_are_called(self):
        methods, stored = class_members()
        for at, node in nodes():
            if isinstance(node, ast.Call) and isinstance(node.func, ast.Attribute):
                self.assertIn(node.func.attr, methods | CALLED, at)
                if node.func.attr in CALLED:
                    self.assertEqual(node.keywords, [], at)

    def test_properties_are_no_methods_elsewhere(self):
        plain, properties = set(), set()
        for at, node in nodes():
            if isinstance(node, ast.ClassDef):
                for item in node.body:
                    if isinstance(item, ast.FunctionDef):
                        (properties if item.decorator_list else plain).add(item.name)
        self.assertEqual(plain & properties, set())
        self.assertEqual(properties & CALLED, set())

    def bound(self, node):
        """The names that a node binds."""
        if isinstance(node, (ast.FunctionDef, ast.ClassDef)):
            return [node.name]
        if isinstance(node, ast.arg):
            return [node.arg]
        if isinstance(node, ast.Name) and isinstance(node.ctx, ast.Store):
            return [node.id]
        return []

    def attributes(self, node):
        return [node.attr] if isinstance(node, ast.Attribute) else []


if __name__ == "__main__":
    unittest.main()
