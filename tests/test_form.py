"""The rules for the form of the package's files that can be checked mechanically."""

import ast
import builtins
import pathlib
import re
import unittest

PACKAGE = pathlib.Path(__file__).resolve().parent.parent / "mergereach"
BUILTINS = set("""len range enumerate zip min max sum abs sorted reversed int str bool bytes list tuple dict set
    frozenset isinstance ord repr any all divmod Exception ValueError TypeError KeyError IndexError LookupError
    ZeroDivisionError ArithmeticError OverflowError RuntimeError NotImplementedError AttributeError StopIteration
    NotImplemented iter next super property staticmethod classmethod""".split())
VALUE_METHODS = set("""append clear copy count endswith extend find get index insert isalnum isalpha isdigit islower
    isspace isupper items join keys ljust lower lstrip partition pop remove replace reverse rfind rjust rpartition
    rsplit rstrip setdefault split splitlines startswith strip update upper values zfill bit_length removeprefix
    removesuffix""".split())
ITERATED = ("zip", "enumerate", "reversed", "range", "items", "keys", "values")
ITERATING = ("list", "tuple", "dict", "sorted", "sum", "any", "all", "enumerate", "zip", "min", "max")
METHODS = set("""__init__ __eq__ __repr__ __str__ __len__ __enter__ __exit__ __call__ __iter__""".split())
BARRED_WORDS = set("""type typing typing_extensions enum Enum IntEnum StrEnum Flag IntFlag Generic Protocol ABC ABCMeta
    namedtuple NamedTuple TypedDict TYPE_CHECKING abstractmethod dataclass overload contextmanager""".split())
BARRED_NAMES = set("""register mro elements open input law version_info with_traceback add_note format format_map
    exit quit help license dir vars id eval exec compile globals locals getattr setattr hasattr delattr""".split())
# The keywords that calls of builtins may have.
BUILTIN_KEYWORDS = {"enumerate": ["start"], "max": ["default"], "min": ["default"]}
MODULE_STATEMENTS = (ast.Expr, ast.ImportFrom, ast.FunctionDef, ast.ClassDef, ast.Assign)
BARRED_NODES = (ast.Global, ast.Import, ast.AsyncFunctionDef, ast.AsyncFor, ast.AsyncWith, ast.Await, ast.Div)


def texts():
    return {path.name: path.read_text(encoding="utf-8") for path in sorted(PACKAGE.glob("*.py"))}


def trees():
    return {name: ast.parse(text) for name, text in texts().items()}


def nodes(*kinds):
    return [(name, node) for name, tree in trees().items() for node in ast.walk(tree) if isinstance(node, kinds)]


def classes_and_methods():
    return [(node, item) for _, node in nodes(ast.ClassDef) for item in node.body if isinstance(item, ast.FunctionDef)]


def defined_names(tree):
    """The functions, classes and values that a file defines at module level."""
    names = {item.name for item in tree.body if isinstance(item, (ast.FunctionDef, ast.ClassDef))}
    return names | {target.id for item in tree.body if isinstance(item, ast.Assign) for target in item.targets}


def called(node):
    """The name of the builtin, function or method that is called, or None."""
    if not isinstance(node, ast.Call):
        return None
    return getattr(node.func, "id", getattr(node.func, "attr", None))


class Files(unittest.TestCase):
    def test_the_folder_contains_python_files_only(self):
        found = [path for path in PACKAGE.iterdir() if path.name != "__pycache__"]
        for path in found:
            self.assertRegex(path.name, r"^(__init__|[a-z][a-z0-9_]*)\.py$")
            self.assertFalse(path.stem.startswith("test"))
        self.assertIn("__init__.py", [path.name for path in found])

    def test_characters_and_sizes(self):
        for name, text in texts().items():
            self.assertRegex(text, r"\A[ -~\n]*\Z", name)
            self.assertLess(text.count("\n"), 400, name)
            for line in text.split("\n"):
                self.assertLessEqual(len(line), 120, f"{name}: {line}")
        for name, node in nodes(ast.FunctionDef):
            self.assertLessEqual(node.end_lineno - node.lineno + 1, 40, f"{name}: {node.name}")

    def test_barred_words(self):
        for name, text in texts().items():
            self.assertEqual(BARRED_WORDS & set(re.findall(r"\w+", text)), set(), name)

    def test_strings(self):
        for name, node in nodes(ast.Constant):
            self.assertNotIsInstance(node.value, (float, complex), name)
            if isinstance(node.value, str):
                self.assertNotIn("%", node.value, name)


class Statements(unittest.TestCase):
    def test_module_level(self):
        for name, tree in trees().items():
            bound = []
            for statement in tree.body:
                self.assertIsInstance(statement, MODULE_STATEMENTS, name)
                if isinstance(statement, ast.Expr):
                    self.assertIs(statement, tree.body[0], name)
                    self.assertIsInstance(statement.value.value, str, name)
                elif isinstance(statement, ast.ImportFrom):
                    bound += [alias.asname or alias.name for alias in statement.names]
                elif isinstance(statement, ast.Assign):
                    bound += [target.id for target in statement.targets]
                else:
                    bound.append(statement.name)
            self.assertEqual(len(bound), len(set(bound)), name)

    def test_imports_name_the_defining_file_of_the_package(self):
        defined = {name: defined_names(tree) for name, tree in trees().items()}
        for name, node in nodes(ast.ImportFrom):
            self.assertEqual(node.level, 0)
            self.assertRegex(node.module, r"^mergereach\.[a-z]+$", name)
            for alias in node.names:
                self.assertIsNone(alias.asname)
                self.assertIn(alias.name, defined[node.module.partition(".")[2] + ".py"], name)

    def test_imports_form_no_circle(self):
        needs = {name: set() for name in texts()}
        for name, node in nodes(ast.ImportFrom):
            needs[name].add(node.module.partition(".")[2] + ".py")
        while needs:
            free = [name for name in needs if not needs[name] & set(needs)]
            self.assertTrue(free, f"a circle among {sorted(needs)}")
            for name in free:
                del needs[name]

    def test_barred_statements_and_operators(self):
        self.assertEqual(nodes(*BARRED_NODES), [])
        for name, node in nodes(ast.Compare):
            for operator, right in zip(node.ops, node.comparators):
                if isinstance(operator, (ast.Is, ast.IsNot)):
                    self.assertIn(getattr(right, "value", 0), (None, True, False), name)

    def test_powers_have_a_literal_exponent(self):
        for name, node in nodes(ast.BinOp):
            if isinstance(node.op, ast.Pow):
                self.assertIsInstance(node.right, ast.Constant, name)

    def test_any_and_its_kin_take_lists(self):
        for name, node in nodes(ast.Call):
            if getattr(node.func, "id", "") in ("any", "all", "min", "max", "sum", "sorted"):
                for argument in node.args:
                    self.assertNotIsInstance(argument, ast.GeneratorExp, name)


    def test_iterators_are_iterated_on_the_spot(self):
        for name, tree in trees().items():
            places = [node.iter for node in ast.walk(tree) if isinstance(node, (ast.For, ast.comprehension))]
            places += [node.args[0] for node in ast.walk(tree) if called(node) in ITERATING and node.args]
            for node in ast.walk(tree):
                if called(node) in ITERATED:
                    self.assertIn(node, places, f"{name}: {ast.unparse(node)}")

    def test_generator_expressions_and_sets_are_not_used(self):
        self.assertEqual(nodes(ast.GeneratorExp, ast.Set, ast.SetComp, ast.Lambda, ast.YieldFrom, ast.NamedExpr), [])
        for name, node in nodes(ast.Call):
            self.assertNotIn(called(node), ("set", "frozenset"), name)

    def test_generators_have_names_of_their_own_and_are_iterated_at_once(self):
        functions = [node for _, node in nodes(ast.FunctionDef)]
        generators = [node for node in functions if any(isinstance(item, ast.Yield) for item in ast.walk(node))]
        for node in generators:
            self.assertEqual([other.name for other in functions].count(node.name), 1)
            self.assertEqual(node.decorator_list, [])
            for item in ast.walk(node):
                self.assertNotIsInstance(item, (ast.Try, ast.With), node.name)
                if isinstance(item, ast.Return):
                    self.assertIsNone(item.value, node.name)
        names = {node.name for node in generators}
        for name, tree in trees().items():
            walked = list(ast.walk(tree))
            places = [node.iter for node in walked if isinstance(node, (ast.For, ast.comprehension))]
            places += [node.args[0] for node in walked if called(node) in ITERATING and node.args]
            for node in walked:
                if called(node) in names:
                    self.assertIn(node, places, f"{name}: {ast.unparse(node)}")

    def test_what_a_loop_iterates_over_is_not_modified_in_it(self):
        for name, loop in nodes(ast.For):
            over = {node.id for node in ast.walk(loop.iter) if isinstance(node, ast.Name)}
            for node in ast.walk(ast.Module(loop.body, [])):
                if isinstance(node, ast.Call) and isinstance(node.func, ast.Attribute):
                    if node.func.attr in ("append", "extend", "pop", "insert", "remove", "clear", "update"):
                        self.assertNotIn(getattr(node.func.value, "id", None), over, name)

    def test_only_own_errors_are_caught_and_errors_are_made_on_the_spot(self):
        own = {node.name for _, node in nodes(ast.ClassDef)}
        for name, node in nodes(ast.ExceptHandler):
            for caught in getattr(node.type, "elts", [node.type]):
                self.assertIn(caught.id, own, name)
        for name, node in nodes(ast.Raise):
            self.assertIn(node.exc.func.id, own, name)
            self.assertIn(getattr(node.cause, "value", None), (None,), name)

    def test_a_finally_only_appends(self):
        for name, node in nodes(ast.Try):
            for statement in node.finalbody:
                self.assertEqual(called(statement.value), "append", name)
                for item in statement.value.args[0].elts:
                    self.assertIsInstance(item, (ast.Constant, ast.Name), name)

    def test_lists_and_dicts_at_module_level_are_not_used(self):
        for name, tree in trees().items():
            for statement in tree.body:
                if isinstance(statement, ast.Assign):
                    for node in ast.walk(statement.value):
                        self.assertIsInstance(node, (ast.Constant, ast.Tuple, ast.Load), name)

    def test_stars_stand_before_names_only(self):
        for name, node in nodes(ast.Starred):
            self.assertIsInstance(node.value, ast.Name, name)

    def test_default_values_are_plain(self):
        for name, node in nodes(ast.arguments):
            self.assertEqual(node.posonlyargs, [], name)
            for value in node.defaults + [one for one in node.kw_defaults if one is not None]:
                self.assertTrue(isinstance(value, ast.Constant) or ast.unparse(value) in ("()", "KEPT_LEVELS"), name)

    def test_there_are_no_annotations(self):
        self.assertEqual(nodes(ast.AnnAssign), [])
        for name, node in nodes(ast.FunctionDef):
            self.assertIsNone(node.returns, name)
        for name, node in nodes(ast.arg):
            self.assertIsNone(node.annotation, name)

    def test_builtins_and_methods_of_values_have_no_keywords(self):
        own = {node.name for _, node in nodes(ast.FunctionDef, ast.ClassDef)}
        for name, node in nodes(ast.Call):
            if called(node) not in own:
                allowed = BUILTIN_KEYWORDS.get(called(node), [])
                for keyword in node.keywords:
                    self.assertIn(keyword.arg, allowed, f"{name}: {ast.unparse(node)}")


class Classes(unittest.TestCase):
    def test_a_class_contains_methods_and_plain_values_only(self):
        for name, node in nodes(ast.ClassDef):
            for item in node.body[1:]:
                self.assertIsInstance(item, (ast.FunctionDef, ast.Assign), name)
                if isinstance(item, ast.Assign):
                    self.assertIsInstance(item.value, ast.Constant, name)

    def test_methods_that_only_look_change_nothing(self):
        for node, method in classes_and_methods():
            decorators = [decorator.id for decorator in method.decorator_list]
            if method.name in ("__eq__", "__len__", "__repr__") or "property" in decorators:
                statements = [item for item in method.body if not isinstance(item, ast.Expr)]
                self.assertEqual([type(item) for item in statements], [ast.Return], f"{node.name}.{method.name}")

    def test_attributes_of_immutable_objects_are_stored_by_the_constructor_only(self):
        for node, method in classes_and_methods():
            for item in ast.walk(method):
                if isinstance(item, ast.Attribute) and not isinstance(item.ctx, ast.Load):
                    self.assertIsInstance(item.value, ast.Name)
                    if node.name in ("Schema", "Coset", "Reach"):
                        self.assertEqual((method.name, item.value.id), ("__init__", "self"), node.name)

    def test_each_attribute_is_stored_by_a_constructor(self):
        for name, node in nodes(ast.Attribute):
            if isinstance(node.ctx, ast.Store):
                first = {item.attr for _, method in classes_and_methods() if method.name == "__init__"
                         for item in ast.walk(method) if isinstance(item, ast.Attribute)}
                self.assertIn(node.attr, first, name)

    def test_super_calls_methods_only(self):
        for name, tree in trees().items():
            calls = [node.func for node in ast.walk(tree) if isinstance(node, ast.Call)]
            for node in ast.walk(tree):
                if isinstance(node, ast.Attribute) and called(node.value) == "super":
                    self.assertIn(node, calls, name)

    def test_each_attribute_exists(self):
        known = {method.name for _, method in classes_and_methods()} | VALUE_METHODS
        known |= {node.attr for _, node in nodes(ast.Attribute) if isinstance(node.ctx, ast.Store)}
        known |= {target.id for _, node in nodes(ast.ClassDef) for item in node.body if isinstance(item, ast.Assign)
                  for target in item.targets}
        for name, node in nodes(ast.Attribute):
            self.assertIn(node.attr, known, name)

    def test_no_own_name_is_a_method_of_a_builtin_value(self):
        taken = {name for kind in (str, int, list, dict, set, tuple, bytes) for name in dir(kind)}
        allowed = METHODS | {"index", "count"}
        found = {method.name for _, method in classes_and_methods()}
        found |= {node.attr for _, node in nodes(ast.Attribute) if isinstance(node.ctx, ast.Store)}
        self.assertEqual(found & taken - allowed, set())


class Naming(unittest.TestCase):
    def test_only_listed_builtins_are_used_and_none_is_redefined(self):
        for name, node in nodes(ast.Name):
            if node.id in dir(builtins):
                self.assertIn(node.id, BUILTINS, name)
                self.assertIsInstance(node.ctx, ast.Load, name)
        for name, node in nodes(ast.arg):
            self.assertNotIn(node.arg, dir(builtins), name)

    def test_plain_names(self):
        found = [node.id for _, node in nodes(ast.Name)] + [node.arg for _, node in nodes(ast.arg)]
        found += [node.attr for _, node in nodes(ast.Attribute) if node.attr != "__init__"]
        found += [node.name for _, node in nodes(ast.FunctionDef, ast.ClassDef) if node.name not in METHODS]
        for name in found:
            self.assertFalse(name.startswith("_"), name)
            self.assertNotIn(name, BARRED_NAMES)

    def test_no_name_is_a_method_and_an_attribute(self):
        methods = {method.name for _, method in classes_and_methods()}
        stored = {node.attr for _, node in nodes(ast.Attribute) if isinstance(node.ctx, ast.Store)}
        self.assertEqual(methods & stored, set())

    def test_no_local_name_is_that_of_a_class_or_an_import_of_its_file(self):
        for name, tree in trees().items():
            taken = {item.name for item in tree.body if isinstance(item, ast.ClassDef)}
            taken |= {alias.name for item in tree.body if isinstance(item, ast.ImportFrom) for alias in item.names}
            walked = list(ast.walk(tree))
            used = {node.arg for node in walked if isinstance(node, ast.arg)}
            used |= {node.id for node in walked if isinstance(node, ast.Name) and isinstance(node.ctx, ast.Store)}
            self.assertEqual(taken & used, set(), name)

    def test_no_method_is_defined_twice(self):
        found = [(node.name, method.name) for node, method in classes_and_methods()]
        self.assertEqual(len(found), len(set(found)))


if __name__ == "__main__":
    unittest.main()
