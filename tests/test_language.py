"""The rules of the language subset that can be checked by the shape of the code."""

import ast
import builtins
import os
import re
import unittest

HERE = os.path.dirname(os.path.dirname(os.path.abspath(__file__)))
FOLDER = os.path.join(HERE, "roomleft")
BUILTINS = set("""len range enumerate zip min max sum abs sorted reversed int str bool bytes list tuple dict set
frozenset isinstance ord repr any all divmod iter next map Exception ValueError TypeError KeyError IndexError LookupError
ZeroDivisionError ArithmeticError OverflowError RuntimeError NotImplementedError AttributeError super property
NotImplemented staticmethod classmethod""".split())
BARRED = set("""register mro elements open input law version_info with_traceback add_note attrgetter breakpoint builtins
compile copyright credits delattr dir eval exec exit gc getattr globals hasattr help id importlib license locals
methodcaller os quit setattr type vars sys""".split())
BARRED_WORDS = re.compile(
    r"\b(type|typing|typing_extensions|enum|Enum|IntEnum|StrEnum|Flag|IntFlag|Generic|Protocol|ABC|ABCMeta|namedtuple|"
    r"NamedTuple|TypedDict|TYPE_CHECKING|abstractmethod)\b|dataclass|overload|contextmanager|_wall|_WallAttr")
METHODS = set("""append clear copy count endswith extend find get index insert isalnum isalpha isdigit islower isspace
isupper items join keys ljust lower lstrip partition pop remove replace reverse rfind rjust rpartition rsplit rstrip
setdefault split splitlines startswith strip update upper values zfill bit_length add discard""".split())
BUILTIN_ATTRIBUTES = {name for kind in (str, int, list, dict, set, bytes, tuple) for name in dir(kind)}
DUNDERS = set("__init__ __eq__ __len__ __enter__ __exit__ __getitem__ __iter__".split())
ALL_BUILTINS = {name for name in dir(builtins) if not name.startswith("_")}
LIBRARY = {"heapq", "math", "itertools"}


def sources():
    told = {}
    for name in sorted(os.listdir(FOLDER)):
        if name != "__pycache__":
            with open(os.path.join(FOLDER, name), encoding="utf-8") as file:
                told[name] = file.read()
    return told


SOURCES = sources()
TREES = {name: ast.parse(text) for name, text in SOURCES.items()}


def nodes(*kinds):
    for name, tree in TREES.items():
        for node in ast.walk(tree):
            if isinstance(node, kinds):
                yield f"{name}:{getattr(node, 'lineno', 0)}", node


def methods():
    """(class node, method node) of all classes."""
    for _, owner in nodes(ast.ClassDef):
        for node in owner.body:
            if isinstance(node, ast.FunctionDef):
                yield owner, node


def stored_attributes():
    return {node.attr for _, node in nodes(ast.Attribute) if isinstance(node.ctx, ast.Store)}


def without_docstrings(tree):
    for node in ast.walk(tree):
        if isinstance(node, (ast.Module, ast.ClassDef, ast.FunctionDef)) and ast.get_docstring(node) is not None:
            node.body[0].value.value = ""
    return ast.unparse(tree)


class FilesTest(unittest.TestCase):
    def test_files(self):
        for name, text in SOURCES.items():
            self.assertRegex(name, r"^[a-z_][a-z0-9_]*\.py$")
            self.assertLessEqual(len(text.split("\n")), 399, name)
            for number, line in enumerate(text.split("\n"), 1):
                where = f"{name}:{number}"
                self.assertLessEqual(len(line), 120, where)
                self.assertTrue(all(" " <= letter <= "~" for letter in line), where)
                self.assertNotIn("%", line, where)

    def test_functions_are_short(self):
        for where, node in nodes(ast.FunctionDef):
            self.assertLessEqual(node.end_lineno - node.lineno + 1, 40, where)

    def test_module_level(self):
        for name, tree in TREES.items():
            for node in tree.body:
                self.assertIsInstance(node, (ast.Expr, ast.ImportFrom, ast.FunctionDef, ast.ClassDef, ast.Assign), name)
                if isinstance(node, ast.Expr):
                    self.assertIsInstance(node.value, ast.Constant, name)

    def test_imports_name_the_file_that_defines(self):
        for where, node in nodes(ast.Import, ast.ImportFrom):
            self.assertIsInstance(node, ast.ImportFrom, where)
            self.assertEqual(node.level, 0, where)
            if node.module in LIBRARY:
                continue
            self.assertTrue(node.module.startswith("roomleft."), where)
            tree = TREES[node.module.split(".")[1] + ".py"]
            defined = {part.name for part in tree.body if isinstance(part, (ast.FunctionDef, ast.ClassDef))}
            defined |= {part.targets[0].id for part in tree.body if isinstance(part, ast.Assign)}
            for alias in node.names:
                self.assertIsNone(alias.asname, where)
                self.assertIn(alias.name, defined, where)

    def test_no_ring_of_imports(self):
        wanted = {}
        for name, tree in TREES.items():
            wanted[name] = {node.module.split(".")[1] + ".py" for node in ast.walk(tree)
                            if isinstance(node, ast.ImportFrom) and node.module not in LIBRARY}
        done = set()
        while len(done) < len(wanted):
            ready = {name for name in wanted if name not in done and wanted[name] <= done}
            self.assertTrue(ready, "a ring of imports")
            done |= ready

    def test_imports_are_used_and_bound_once(self):
        for name, tree in TREES.items():
            used = {node.id for node in ast.walk(tree) if isinstance(node, ast.Name)}
            bound = []
            for node in tree.body:
                if isinstance(node, ast.ImportFrom):
                    bound.extend(alias.name for alias in node.names)
                    for alias in node.names:
                        self.assertIn(alias.name, used, name)
                elif isinstance(node, (ast.FunctionDef, ast.ClassDef)):
                    bound.append(node.name)
            self.assertEqual(len(bound), len(set(bound)), name)

    def test_barred_words(self):
        for name, text in SOURCES.items():
            self.assertIsNone(BARRED_WORDS.search(without_docstrings(ast.parse(text))), name)


class NamesTest(unittest.TestCase):
    def test_builtins(self):
        for where, node in nodes(ast.Name):
            if node.id in ALL_BUILTINS:
                self.assertIsInstance(node.ctx, ast.Load, where)
                self.assertIn(node.id, BUILTINS, where)
            self.assertNotIn(node.id, BARRED, where)
            self.assertFalse(node.id.startswith("__"), where)
            if node.id == "_":
                self.assertIsInstance(node.ctx, ast.Store, where)

    def test_parameters_and_functions(self):
        for where, node in nodes(ast.arg):
            self.assertNotIn(node.arg, ALL_BUILTINS, where)
            self.assertNotIn(node.arg, BARRED, where)
        for where, node in nodes(ast.FunctionDef, ast.ClassDef):
            self.assertNotIn(node.name, ALL_BUILTINS, where)
            self.assertNotIn(node.name, BARRED, where)

    def test_no_local_name_of_a_class_or_an_import(self):
        for name, tree in TREES.items():
            taken = {alias.name for node in tree.body if isinstance(node, ast.ImportFrom) for alias in node.names}
            taken |= {node.name for node in tree.body if isinstance(node, ast.ClassDef)}
            for node in ast.walk(tree):
                if isinstance(node, ast.arg):
                    self.assertNotIn(node.arg, taken, f"{name}:{node.lineno}")
                if isinstance(node, ast.Name) and isinstance(node.ctx, ast.Store):
                    self.assertNotIn(node.id, taken, f"{name}:{node.lineno}")

    def test_methods_and_attributes(self):
        stored = stored_attributes()
        names = {node.name for _, node in methods()}
        for owner, node in methods():
            self.assertNotIn(node.name, stored, owner.name)
            if node.name.startswith("__"):
                self.assertIn(node.name, DUNDERS, owner.name)
            elif node.name in BUILTIN_ATTRIBUTES:
                self.assertIn(node.name, METHODS, owner.name)
        self.assertFalse(stored & (BUILTIN_ATTRIBUTES - {"count", "index", "find", "get", "join"}))
        class_values = {target.id for _, owner in nodes(ast.ClassDef) for node in owner.body
                        if isinstance(node, ast.Assign) for target in node.targets}
        for where, node in nodes(ast.Attribute):
            if isinstance(node.ctx, ast.Load):
                known = stored | names | class_values | METHODS | {"__init__", "__class__", "__name__"}
                self.assertIn(node.attr, known, where)

    def test_names_of_classes(self):
        inside = set()
        for where, node in nodes(ast.Attribute):
            if node.attr == "__name__":
                self.assertIsInstance(node.value, ast.Attribute, where)
                self.assertEqual(node.value.attr, "__class__", where)
                self.assertIsInstance(node.value.value, (ast.Name, ast.Attribute), where)
                inside.add(id(node.value))
        for where, node in nodes(ast.Attribute):
            if node.attr == "__class__":
                self.assertIn(id(node), inside, where)

    def test_methods_of_one_name_take_the_same(self):
        shapes = {}
        for owner, node in methods():
            if node.name != "__init__":
                shape = (len(node.args.args), len(node.args.defaults))
                self.assertEqual(shapes.setdefault(node.name, shape), shape, (owner.name, node.name))


class ExpressionsTest(unittest.TestCase):
    def test_statements_that_are_not_allowed(self):
        barred = (ast.Global, ast.AsyncFunctionDef, ast.AsyncFor, ast.AsyncWith, ast.Await, ast.GeneratorExp, ast.Div)
        for where, node in nodes(*barred):
            self.fail(f"{where}: {node.__class__.__name__}")

    def test_decorators(self):
        for where, node in nodes(ast.FunctionDef, ast.ClassDef):
            for decorator in node.decorator_list:
                self.assertEqual(ast.unparse(decorator), "property", where)

    def test_powers(self):
        for where, node in nodes(ast.BinOp):
            if isinstance(node.op, ast.Pow):
                self.assertIsInstance(node.right, ast.Constant, where)
                self.assertLessEqual(node.right.value, 64, where)

    def test_constants(self):
        for where, node in nodes(ast.Constant):
            self.assertNotIsInstance(node.value, (float, complex), where)

    def test_is(self):
        for where, node in nodes(ast.Compare):
            for operator, right in zip(node.ops, node.comparators):
                if isinstance(operator, (ast.Is, ast.IsNot)):
                    self.assertIsInstance(right, ast.Constant, where)

    def test_sets_stand_in_len_or_sorted(self):
        inside = set()
        for _, node in nodes(ast.Call):
            if isinstance(node.func, ast.Name) and node.func.id in ("len", "sorted"):
                inside.update(id(argument) for argument in node.args)
        for where, node in nodes(ast.SetComp, ast.Set):
            self.assertIn(id(node), inside, where)

    def test_handlers_name_own_errors(self):
        own = {node.name for _, node in nodes(ast.ClassDef)}
        for where, node in nodes(ast.ExceptHandler):
            self.assertIsNotNone(node.type, where)
            caught = node.type.elts if isinstance(node.type, ast.Tuple) else [node.type]
            for kind in caught:
                self.assertIn(kind.id, own | {"KeyError"}, where)

    def test_raise_creates_its_error(self):
        for where, node in nodes(ast.Raise):
            self.assertIsInstance(node.exc, ast.Call, where)
            self.assertIsInstance(node.exc.func, ast.Name, where)

    def test_views_are_iterated_at_once(self):
        for where, node in nodes(ast.Assign, ast.Return):
            if isinstance(node.value, ast.Call):
                called = node.value.func
                name = called.id if isinstance(called, ast.Name) else getattr(called, "attr", "")
                self.assertNotIn(name, ("zip", "enumerate", "reversed", "range", "map", "items", "keys", "values"), where)

    def test_sort_is_not_called(self):
        for where, node in nodes(ast.Attribute):
            self.assertNotEqual(node.attr, "sort", where)


if __name__ == "__main__":
    unittest.main()
