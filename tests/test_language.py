"""The rules of LANGUAGE.md that a short look at each file can check."""

import ast
import builtins
import re
import unittest
from pathlib import Path

PACKAGE = Path(__file__).resolve().parent.parent / "roadbikes"
BUILTINS = set(
    "len range enumerate zip min max sum abs sorted reversed int str bool bytes list tuple dict set frozenset"
    " isinstance ord repr any all divmod iter next super property staticmethod classmethod Exception ValueError"
    " TypeError KeyError IndexError LookupError ZeroDivisionError ArithmeticError OverflowError RuntimeError"
    " NotImplementedError AttributeError StopIteration NotImplemented".split())
BARRED_WORDS = re.compile(
    r"\b(type|typing|typing_extensions|enum|Enum|IntEnum|StrEnum|Flag|IntFlag|Generic|Protocol|ABC|ABCMeta"
    r"|namedtuple|NamedTuple|TypedDict|TYPE_CHECKING|abstractmethod)\b|dataclass|overload|contextmanager")
BARRED_NODES = (
    ast.Import, ast.Global, ast.AsyncFunctionDef, ast.AsyncFor, ast.AsyncWith, ast.Await, ast.Div)
OPERATORS = {
    "__getitem__": "(self, at)", "__contains__": "(self, x)", "__add__": "(self, other)", "__rshift__": "(self, other)"}
OTHER_SPECIAL_METHODS = {"__init__", "__eq__", "__str__", "__len__", "__call__", "__iter__"}
TAKE_LISTS = {"sum", "min", "max", "sorted", "any", "all"}
UNUSED_NAMES = {"register", "mro", "elements", "open", "input", "law", "version_info", "with_traceback", "add_note"}
DECORATORS = {"property", "classmethod"}
BARRED_FROM_FINALLY = (
    ast.Call, ast.BinOp, ast.Compare, ast.Subscript, ast.Return, ast.Raise, ast.For, ast.While, ast.Try, ast.Delete)


def bound_names(node):
    """The names that this very node binds."""
    if isinstance(node, (ast.FunctionDef, ast.ClassDef)):
        return [node.name]
    if isinstance(node, ast.arg):
        return [node.arg]
    if isinstance(node, ast.Name) and isinstance(node.ctx, ast.Store):
        return [node.id]
    return []


def top_names(node):
    """The names that a statement at module level binds."""
    return [ast.unparse(target) for target in node.targets] if isinstance(node, ast.Assign) else bound_names(node)


def is_property(method):
    return [ast.unparse(decorator) for decorator in method.decorator_list] == ["property"]


def assigned_attributes(node):
    return [
        (name.value.id, name.attr) for name in ast.walk(node)
        if isinstance(name, ast.Attribute) and isinstance(name.ctx, ast.Store) and isinstance(name.value, ast.Name)]


FILES = {path.name: path.read_text(encoding="utf-8") for path in sorted(PACKAGE.rglob("*.py"))}
NODES = [(name, node) for name, text in FILES.items() for node in ast.walk(ast.parse(text))]
CLASSES = [node for _, node in NODES if isinstance(node, ast.ClassDef)]
METHODS = [(kind.name, method) for kind in CLASSES for method in kind.body if isinstance(method, ast.FunctionDef)]
GENERATORS = {
    node.name for _, node in NODES
    if isinstance(node, ast.FunctionDef) and any(isinstance(part, ast.Yield) for part in ast.walk(node))}


class Language(unittest.TestCase):
    def test_only_python_files(self):
        others = [path for path in PACKAGE.rglob("*") if path.is_file() and path.suffix not in (".py", ".pyc")]
        self.assertEqual(others, [])
        self.assertIn("__init__.py", FILES)

    def test_sizes_and_characters(self):
        for name, text in FILES.items():
            lines = text.split("\n")
            self.assertLessEqual(len(lines), 399, name)
            self.assertLessEqual(max(map(len, lines)), 120, name)
            self.assertEqual([char for char in text if char != "\n" and not " " <= char <= "~"], [], name)

    def test_barred_words(self):
        for name, text in FILES.items():
            self.assertIsNone(BARRED_WORDS.search(text), name)

    def test_functions_are_short(self):
        for name, node in NODES:
            if isinstance(node, ast.FunctionDef):
                self.assertLessEqual(node.end_lineno - node.lineno + 1, 40, (name, node.name))

    def test_imports(self):
        for name, node in NODES:
            if isinstance(node, ast.ImportFrom):
                self.assertEqual((node.level, node.col_offset), (0, 0), name)
                self.assertTrue(node.module.startswith("roadbikes."), (name, node.module))

    def test_barred_statements_and_values(self):
        for name, node in NODES:
            self.assertNotIsInstance(node, BARRED_NODES, name)
            if isinstance(node, ast.Constant):
                self.assertNotIsInstance(node.value, (float, complex), name)
                self.assertNotIn("%", str(node.value), name)

    def test_builtins(self):
        for name, node in NODES:
            if isinstance(node, ast.Name) and hasattr(builtins, node.id):
                self.assertIn(node.id, BUILTINS, name)

    def test_names(self):
        for name, node in NODES:
            for bound in bound_names(node):
                if not (bound.startswith("__") and bound.endswith("__")):
                    self.assertFalse(bound.startswith("_") or hasattr(builtins, bound), (name, bound))

    def test_special_methods(self):
        for kind, method in METHODS:
            if method.name in OPERATORS:
                self.assertEqual(f"({ast.unparse(method.args)})", OPERATORS[method.name], kind)
            elif method.name.startswith("__"):
                self.assertIn(method.name, OTHER_SPECIAL_METHODS, kind)

    def test_items_without_a_loop(self):
        loops = {kind for kind, method in METHODS if method.name == "__iter__"}
        for kind, method in METHODS:
            if method.name == "__getitem__":
                self.assertIn(kind, loops)

    def test_operators_and_properties_assign_no_attribute(self):
        for kind, method in METHODS:
            if method.name in OPERATORS or method.name in ("__eq__", "__str__", "__len__") or is_property(method):
                self.assertEqual(assigned_attributes(method), [], (kind, method.name))

    def test_no_name_is_a_method_and_an_attribute(self):
        methods = {method.name for _, method in METHODS}
        for kind, method in METHODS:
            for _, attribute in assigned_attributes(method):
                self.assertNotIn(attribute, methods, kind)

    def test_sums_and_the_like_take_lists(self):
        for name, node in NODES:
            if isinstance(node, ast.Call) and ast.unparse(node.func) in TAKE_LISTS:
                for argument in node.args:
                    self.assertNotIsInstance(argument, ast.GeneratorExp, name)
                    called = ast.unparse(argument.func) if isinstance(argument, ast.Call) else ""
                    self.assertNotIn(called, GENERATORS, name)

    def test_no_sort_in_place(self):
        for name, node in NODES:
            self.assertFalse(isinstance(node, ast.Attribute) and node.attr == "sort", name)

    def test_imported_names_are_defined_there_and_no_imports_go_round(self):
        imports = {name: set() for name in FILES}
        for name, node in NODES:
            if isinstance(node, ast.ImportFrom):
                source = node.module.removeprefix("roadbikes.") + ".py"
                imports[name].add(source)
                defined = {bound for part in ast.parse(FILES[source]).body for bound in top_names(part)}
                self.assertLessEqual({alias.name for alias in node.names}, defined, name)
                self.assertEqual([alias.asname for alias in node.names if alias.asname], [], name)
        while imports:
            free = [name for name, needed in imports.items() if not needed & set(imports)]
            self.assertNotEqual(free, [], imports)
            imports = {name: needed for name, needed in imports.items() if name not in free}

    def test_names_that_are_not_used(self):
        for name, node in NODES:
            used = [*bound_names(node), node.attr] if isinstance(node, ast.Attribute) else bound_names(node)
            self.assertEqual(UNUSED_NAMES & set(used), set(), name)

    def test_local_names_are_no_imports_and_no_classes(self):
        for name, text in FILES.items():
            tree = ast.parse(text)
            outer = {alias.name for part in tree.body if isinstance(part, ast.ImportFrom) for alias in part.names}
            outer |= {part.name for part in tree.body if isinstance(part, ast.ClassDef)}
            inner = [bound for function in ast.walk(tree) if isinstance(function, ast.FunctionDef)
                     for node in ast.walk(function) for bound in bound_names(node)]
            self.assertEqual(outer & set(inner), set(), name)

    def test_decorators(self):
        for name, node in NODES:
            if isinstance(node, (ast.FunctionDef, ast.ClassDef)):
                self.assertLessEqual({ast.unparse(decorator) for decorator in node.decorator_list}, DECORATORS, name)

    def test_properties_are_nothing_else(self):
        properties = {method.name for _, method in METHODS if is_property(method)}
        self.assertEqual(properties, {"starts", "best", "road", "finish", "latest"})
        for kind, method in METHODS:
            self.assertTrue(is_property(method) or method.name not in properties, kind)
            for _, attribute in assigned_attributes(method):
                self.assertNotIn(attribute, properties, kind)

    def test_class_values_are_written_out(self):
        for kind in CLASSES:
            for part in kind.body:
                if isinstance(part, ast.Assign):
                    self.assertIsInstance(part.value, ast.Constant, kind.name)

    def test_only_errors_of_the_package_are_caught(self):
        own = {kind.name for kind in CLASSES}
        for name, node in NODES:
            if isinstance(node, ast.ExceptHandler):
                caught = node.type.elts if isinstance(node.type, ast.Tuple) else [node.type]
                self.assertLessEqual({ast.unparse(kind) for kind in caught}, own, name)

    def test_errors_are_made_where_they_are_raised(self):
        made = {kind.name for kind in CLASSES} | {"TypeError"}
        for name, node in NODES:
            if isinstance(node, ast.Raise):
                self.assertIsInstance(node.exc, ast.Call, name)
                self.assertIn(ast.unparse(node.exc.func), made, name)

    def test_finally_only_assigns(self):
        blocks = [(name, node.finalbody) for name, node in NODES if isinstance(node, ast.Try) and node.finalbody]
        self.assertEqual(len(blocks), 2)
        for name, block in blocks:
            for statement in block:
                self.assertIsInstance(statement, ast.Assign, name)
                for part in ast.walk(statement):
                    self.assertNotIsInstance(part, BARRED_FROM_FINALLY, name)

    def test_is_only_with_none(self):
        for name, node in NODES:
            if isinstance(node, ast.Compare) and isinstance(node.ops[0], (ast.Is, ast.IsNot)):
                self.assertIn(ast.unparse(node.comparators[0]), ("None", "True", "False"), name)

    def test_some_methods_assign_nothing(self):
        for kind, method in METHODS:
            if method.name in ("__eq__", "__str__", "__len__"):
                self.assertEqual([bound for part in ast.walk(method) for bound in bound_names(part)
                                  if isinstance(part, ast.Name) and bound != "start"], [], (kind, method.name))
                self.assertIsInstance(method.body[-1], ast.Return, (kind, method.name))

    def test_generators_are_not_stored(self):
        for name, node in NODES:
            if isinstance(node, (ast.Assign, ast.Return)) and isinstance(node.value, ast.Call):
                self.assertNotIn(ast.unparse(node.value.func).split(".")[-1], GENERATORS, name)


if __name__ == "__main__":
    unittest.main()
