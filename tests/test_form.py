"""The rules for the form of the package's files that can be checked mechanically."""

import ast
import builtins
import pathlib
import re
import unittest

PACKAGE = pathlib.Path(__file__).resolve().parent.parent / "mergereach"
BUILTINS = set("""len range enumerate zip min max sum abs sorted reversed int str bool bytes list tuple dict set
    frozenset isinstance ord repr any all divmod Exception ValueError TypeError KeyError IndexError LookupError
    ZeroDivisionError ArithmeticError OverflowError RuntimeError NotImplementedError AttributeError StopIteration
    NotImplemented iter next super property staticmethod classmethod""".split())
METHODS = set("""__init__ __eq__ __repr__ __str__ __len__ __enter__ __exit__ __call__ __iter__""".split())
BARRED_WORDS = set("""type typing typing_extensions enum Enum IntEnum StrEnum Flag IntFlag Generic Protocol ABC ABCMeta
    namedtuple NamedTuple TypedDict TYPE_CHECKING abstractmethod dataclass overload contextmanager""".split())
BARRED_NAMES = set("""register mro elements open input law version_info with_traceback add_note format format_map
    exit quit help license dir vars id eval exec compile globals locals getattr setattr hasattr delattr""".split())
MODULE_STATEMENTS = (ast.Expr, ast.ImportFrom, ast.FunctionDef, ast.ClassDef, ast.Assign)
BARRED_NODES = (ast.Global, ast.Import, ast.AsyncFunctionDef, ast.AsyncFor, ast.AsyncWith, ast.Await, ast.Div)


def texts():
    return {path.name: path.read_text(encoding="utf-8") for path in sorted(PACKAGE.glob("*.py"))}


def trees():
    return {name: ast.parse(text) for name, text in texts().items()}


def nodes(*kinds):
    return [(name, node) for name, tree in trees().items() for node in ast.walk(tree) if isinstance(node, kinds)]


def classes_and_methods():
    return [(node, item) for _, node in nodes(ast.ClassDef) for item in node.body if isinstance(item, ast.FunctionDef)]


class Files(unittest.TestCase):
    def test_the_folder_contains_python_files_only(self):
        found = [path for path in PACKAGE.iterdir() if path.name != "__pycache__"]
        for path in found:
            self.assertRegex(path.name, r"^(__init__|[a-z][a-z0-9_]*)\.py$")
            self.assertFalse(path.stem.startswith("test"))
        self.assertIn("__init__.py", [path.name for path in found])

    def test_characters_and_sizes(self):
        for name, text in texts().items():
            self.assertRegex(text, r"\A[ -~\n]*\Z", name)
            self.assertLess(text.count("\n"), 400, name)
            for line in text.split("\n"):
                self.assertLessEqual(len(line), 120, f"{name}: {line}")
        for name, node in nodes(ast.FunctionDef):
            self.assertLessEqual(node.end_lineno - node.lineno + 1, 40, f"{name}: {node.name}")

    def test_barred_words(self):
        for name, text in texts().items():
            self.assertEqual(BARRED_WORDS & set(re.findall(r"\w+", text)), set(), name)

    def test_strings(self):
        for name, node in nodes(ast.Constant):
            self.assertNotIsInstance(node.value, (float, complex), name)
            if isinstance(node.value, str):
                self.assertNotIn("%", node.value, name)


class Statements(unittest.TestCase):
    def test_module_level(self):
        for name, tree in trees().items():
            bound = []
            for statement in tree.body:
                self.assertIsInstance(statement, MODULE_STATEMENTS, name)
                if isinstance(statement, ast.Expr):
                    self.assertIs(statement, tree.body[0], name)
                    self.assertIsInstance(statement.value.value, str, name)
                elif isinstance(statement, ast.ImportFrom):
                    bound += [alias.asname or alias.name for alias in statement.names]
                elif isinstance(statement, ast.Assign):
                    bound += [target.id for target in statement.targets]
                else:
                    bound.append(statement.name)
            self.assertEqual(len(bound), len(set(bound)), name)

    def test_imports_name_the_defining_file_of_the_package(self):
        defined = {name: {getattr(item, "name", None) for item in tree.body} for name, tree in trees().items()}
        for name, node in nodes(ast.ImportFrom):
            self.assertEqual(node.level, 0)
            self.assertRegex(node.module, r"^mergereach\.[a-z]+$", name)
            for alias in node.names:
                self.assertIsNone(alias.asname)
                self.assertIn(alias.name, defined[node.module.partition(".")[2] + ".py"], name)

    def test_imports_form_no_circle(self):
        needs = {name: set() for name in texts()}
        for name, node in nodes(ast.ImportFrom):
            needs[name].add(node.module.partition(".")[2] + ".py")
        while needs:
            free = [name for name in needs if not needs[name] & set(needs)]
            self.assertTrue(free, f"a circle among {sorted(needs)}")
            for name in free:
                del needs[name]

    def test_barred_statements_and_operators(self):
        self.assertEqual(nodes(*BARRED_NODES), [])
        for name, node in nodes(ast.Compare):
            for operator, right in zip(node.ops, node.comparators):
                if isinstance(operator, (ast.Is, ast.IsNot)):
                    self.assertIn(getattr(right, "value", 0), (None, True, False), name)

    def test_powers_have_a_literal_exponent(self):
        for name, node in nodes(ast.BinOp):
            if isinstance(node.op, ast.Pow):
                self.assertIsInstance(node.right, ast.Constant, name)

    def test_any_and_its_kin_take_lists(self):
        for name, node in nodes(ast.Call):
            if getattr(node.func, "id", "") in ("any", "all", "min", "max", "sum", "sorted"):
                for argument in node.args:
                    self.assertNotIsInstance(argument, ast.GeneratorExp, name)


class Naming(unittest.TestCase):
    def test_only_listed_builtins_are_used_and_none_is_redefined(self):
        for name, node in nodes(ast.Name):
            if node.id in dir(builtins):
                self.assertIn(node.id, BUILTINS, name)
                self.assertIsInstance(node.ctx, ast.Load, name)
        for name, node in nodes(ast.arg):
            self.assertNotIn(node.arg, dir(builtins), name)

    def test_plain_names(self):
        found = [node.id for _, node in nodes(ast.Name)] + [node.arg for _, node in nodes(ast.arg)]
        found += [node.attr for _, node in nodes(ast.Attribute) if node.attr != "__init__"]
        found += [node.name for _, node in nodes(ast.FunctionDef, ast.ClassDef) if node.name not in METHODS]
        for name in found:
            self.assertFalse(name.startswith("_"), name)
            self.assertNotIn(name, BARRED_NAMES)

    def test_no_name_is_a_method_and_an_attribute(self):
        methods = {method.name for _, method in classes_and_methods()}
        stored = {node.attr for _, node in nodes(ast.Attribute) if isinstance(node.ctx, ast.Store)}
        self.assertEqual(methods & stored, set())

    def test_no_local_name_is_that_of_a_class_or_an_import_of_its_file(self):
        for name, tree in trees().items():
            taken = {item.name for item in tree.body if isinstance(item, ast.ClassDef)}
            taken |= {alias.name for item in tree.body if isinstance(item, ast.ImportFrom) for alias in item.names}
            walked = list(ast.walk(tree))
            used = {node.arg for node in walked if isinstance(node, ast.arg)}
            used |= {node.id for node in walked if isinstance(node, ast.Name) and isinstance(node.ctx, ast.Store)}
            self.assertEqual(taken & used, set(), name)

    def test_no_method_is_defined_twice(self):
        found = [(node.name, method.name) for node, method in classes_and_methods()]
        self.assertEqual(len(found), len(set(found)))


if __name__ == "__main__":
    unittest.main()
