"""What can be seen of the form of the package's code: size, signs, imports, statements and names."""

import ast
import builtins
import os
import re
import unittest

FOLDER = os.path.join(os.path.dirname(os.path.dirname(os.path.abspath(__file__))), "standworth")
BUILTINS = set(
    "len range enumerate zip min max sum abs sorted reversed int str bool bytes list tuple dict set frozenset"
    " isinstance"
    " ord repr any all divmod iter next map super property staticmethod classmethod Exception ValueError TypeError"
    " KeyError IndexError LookupError ZeroDivisionError ArithmeticError OverflowError RuntimeError NotImplementedError"
    " AttributeError StopIteration NotImplemented".split()
)
LIBRARY = {
    "heapq": {"heappush", "heappop", "heapify", "heapreplace", "heappushpop"},
    "math": {"gcd", "lcm", "isqrt", "comb", "perm", "factorial"},
    "itertools": {"product", "combinations", "permutations"},
}
DOUBLE = set(
    "init eq repr str len enter exit call iter lt le gt ge ne add sub mul floordiv mod pow and or xor lshift rshift neg"
    " pos invert abs bool contains getitem setitem".split()
)
METHODS = set(
    "append clear copy count endswith extend find get index insert isalnum isalpha isdigit islower isspace isupper"
    " items"
    " join keys ljust lower lstrip partition pop remove replace reverse rfind rjust rpartition rsplit rstrip setdefault"
    " split splitlines startswith strip update upper values zfill bit_length add discard".split()
)
BARRED_NAMES = set(
    "register mro elements open input law version_info with_traceback add_note attrgetter breakpoint builtins compile"
    " copyright credits delattr dir eval exec exit gc getattr globals hasattr help id importlib license locals"
    " methodcaller os quit setattr type vars sys format format_map args".split()
)
BARRED_WORDS = re.compile(
    r"\b(type|typing|typing_extensions|enum|Enum|IntEnum|StrEnum|Flag|IntFlag|Generic|Protocol|ABC|ABCMeta|namedtuple|"
    r"NamedTuple|TypedDict|TYPE_CHECKING|abstractmethod|_wall|_WallAttr)\b|dataclass|overload|contextmanager"
)
STATEMENTS = (
    ast.Assign, ast.AugAssign, ast.AnnAssign, ast.If, ast.While, ast.For, ast.Return, ast.Break, ast.Continue, ast.Pass,
    ast.Raise, ast.Assert, ast.Delete, ast.Nonlocal, ast.Match, ast.With, ast.Try, ast.Expr, ast.FunctionDef,
    ast.ClassDef, ast.ImportFrom,
)
# Where a class has __eq__, lists stand where generator expressions could.
BARRED_NODES = (ast.GeneratorExp, ast.Global, ast.Await, ast.AsyncFunctionDef, ast.Import, ast.Div)
CAUGHT_FREELY = {"KeyError", "ZeroDivisionError", "StopIteration"}


def files():
    return sorted(name for name in os.listdir(FOLDER) if name != "__pycache__")


def source_of(name):
    with open(os.path.join(FOLDER, name), encoding="utf-8") as file:
        return file.read()


def trees():
    return [(name, ast.parse(source_of(name))) for name in files()]


def bound_names(tree):
    """The names that a file binds: functions, classes, imports, parameters, variables and caught errors."""
    names = []
    for node in ast.walk(tree):
        if isinstance(node, (ast.FunctionDef, ast.ClassDef)):
            names.append(node.name)
        elif isinstance(node, ast.arg):
            names.append(node.arg)
        elif isinstance(node, ast.Name) and not isinstance(node.ctx, ast.Load):
            names.append(node.id)
        elif isinstance(node, ast.ExceptHandler) and node.name:
            names.append(node.name)
        elif isinstance(node, ast.ImportFrom):
            names.extend(alias.asname or alias.name for alias in node.names)
    return names


def defined_names(tree):
    """The names that a file defines at module level."""
    names = [node.name for node in tree.body if isinstance(node, (ast.FunctionDef, ast.ClassDef))]
    return names + [node.targets[0].id for node in tree.body if isinstance(node, ast.Assign)]


def imports_of(tree):
    return [node for node in tree.body if isinstance(node, ast.ImportFrom)]


class FormTest(unittest.TestCase):
    def test_files(self):
        self.assertIn("__init__.py", files())
        for name in files():
            self.assertRegex(name, r"^(__init__|[a-z][a-z_]*)\.py$")
            self.assertNotIn(name[:-3], dir(builtins))

    def test_signs_and_sizes(self):
        for name in files():
            text = source_of(name)
            self.assertRegex(text, r"^[\n -~]*$", name)
            self.assertLessEqual(len(text.split("\n")), 399, name)
            self.assertLessEqual(max(len(line) for line in text.split("\n")), 120, name)
            self.assertNotRegex(text, BARRED_WORDS, name)
            self.assertNotIn("\\t", text)
        for name, tree in trees():
            for node in ast.walk(tree):
                if isinstance(node, ast.FunctionDef):
                    self.assertLessEqual(node.end_lineno - node.lineno + 1, 40, f"{name} {node.name}")
                if isinstance(node, ast.Constant) and isinstance(node.value, str):
                    self.assertNotIn("%", node.value, name)

    def test_module_level(self):
        for name, tree in trees():
            self.assertIsNotNone(ast.get_docstring(tree), name)
            for node in tree.body[1:]:
                self.assertIsInstance(node, (ast.ImportFrom, ast.FunctionDef, ast.ClassDef, ast.Assign), name)
                if isinstance(node, ast.Assign):
                    ast.literal_eval(node.value)
            names = defined_names(tree) + [alias.name for node in imports_of(tree) for alias in node.names]
            self.assertEqual(len(set(names)), len(names), name)

    def test_docstrings(self):
        for name, tree in trees():
            for node in ast.walk(tree):
                if isinstance(node, ast.ClassDef) or isinstance(node, ast.FunctionDef) and node.name[0] != "_":
                    self.assertIsNotNone(ast.get_docstring(node), f"{name} {node.name}")

    def test_imports(self):
        known = dict(trees())
        for name, tree in known.items():
            used = {node.id for node in ast.walk(tree) if isinstance(node, ast.Name)}
            for node in imports_of(tree):
                self.assertEqual(node.level, 0)
                for alias in node.names:
                    self.assertIsNone(alias.asname)
                    self.assertIn(alias.name, used, f"{name} does not use what it imports")
                if node.module in LIBRARY:
                    self.assertLessEqual({alias.name for alias in node.names}, LIBRARY[node.module])
                    continue
                package, module = node.module.split(".")
                self.assertEqual(package, "standworth")
                for alias in node.names:
                    self.assertIn(alias.name, defined_names(known[f"{module}.py"]), name)

    def test_no_imports_in_a_circle(self):
        needs = {
            name[:-3]: {node.module.split(".")[-1] for node in imports_of(tree)} for name, tree in trees()
        }
        while needs:
            free = [name for name in needs if not needs[name] & set(needs)]
            self.assertTrue(free, f"circle among {sorted(needs)}")
            for name in free:
                del needs[name]

    def test_statements_and_expressions(self):
        for name, tree in trees():
            for node in ast.walk(tree):
                if isinstance(node, ast.stmt):
                    self.assertIsInstance(node, STATEMENTS, f"{name} {node.lineno}")
                self.assertNotIsInstance(node, BARRED_NODES, f"{name} {getattr(node, 'lineno', 0)}")
                if isinstance(node, ast.Constant):
                    self.assertIsInstance(node.value, (int, str, type(None)))

    def test_caught_errors(self):
        own = set(defined_names(ast.parse(source_of("errors.py"))))
        for name, tree in trees():
            for node in ast.walk(tree):
                if isinstance(node, ast.ExceptHandler):
                    kinds = node.type.elts if isinstance(node.type, ast.Tuple) else [node.type]
                    for kind in kinds:
                        self.assertIn(kind.id, own | CAUGHT_FREELY, f"{name} {node.lineno}")

    def test_names(self):
        for name, tree in trees():
            imported = {alias.name for node in imports_of(tree) for alias in node.names}
            classes = {node.name for node in tree.body if isinstance(node, ast.ClassDef)}
            bound = bound_names(tree)
            methods = [
                node.name for each in ast.walk(tree) if isinstance(each, ast.ClassDef)
                for node in each.body if isinstance(node, ast.FunctionDef)
            ]
            for other in bound:
                self.assertNotIn(other, BARRED_NAMES, name)
                if other not in methods:
                    self.assertNotIn(other, dir(builtins), name)
            for other in imported | classes:
                self.assertEqual(bound.count(other), 1, f"{name} binds {other} twice")
            for other in methods:
                if other.startswith("__"):
                    self.assertIn(other.strip("_"), DOUBLE, name)
                else:
                    self.assertRegex(other, r"^_?[a-z]", name)

    def test_builtins_and_methods(self):
        own = {
            node.name for _, tree in trees() for node in ast.walk(tree) if isinstance(node, ast.FunctionDef)
        }
        for name, tree in trees():
            bound = set(bound_names(tree))
            for node in ast.walk(tree):
                if isinstance(node, ast.Name) and node.id not in bound:
                    self.assertIn(node.id, BUILTINS, f"{name} {node.lineno}")
                if isinstance(node, ast.Call) and isinstance(node.func, ast.Attribute):
                    self.assertIn(node.func.attr, METHODS | own, f"{name} {node.lineno}")

    def test_attributes_are_assigned_and_are_no_methods_of_their_class(self):
        assigned = {
            node.attr for _, tree in trees() for node in ast.walk(tree)
            if isinstance(node, ast.Attribute) and isinstance(node.ctx, ast.Store)
        }
        for name, tree in trees():
            for each in ast.walk(tree):
                if isinstance(each, ast.ClassDef):
                    methods = {node.name for node in each.body if isinstance(node, ast.FunctionDef)}
                    stored = {
                        node.attr for node in ast.walk(each)
                        if isinstance(node, ast.Attribute) and isinstance(node.ctx, ast.Store)
                    }
                    self.assertEqual(methods & stored, set(), each.name)
                if isinstance(each, ast.Attribute) and each.attr.startswith("_") and not each.attr.startswith("__"):
                    own = [node.name for node in ast.walk(tree) if isinstance(node, ast.FunctionDef)]
                    self.assertTrue(each.attr in assigned or each.attr in own, f"{name} {each.attr}")

    def test_strings_in_braces_stand_without_backslashes(self):
        for name, tree in trees():
            for node in ast.walk(tree):
                if isinstance(node, ast.JoinedStr):
                    within = [part for value in node.values if isinstance(value, ast.FormattedValue)
                              for part in ast.walk(value.value) if isinstance(part, ast.Constant)]
                    self.assertFalse([part for part in within if isinstance(part.value, str)], f"{name} {node.lineno}")

    def test_tables_are_only_read_where_they_stand(self):
        """A dict at module level is asked by an index, by get or with in, and never passed on."""
        for name, tree in trees():
            tables = {
                node.targets[0].id for node in tree.body
                if isinstance(node, ast.Assign) and isinstance(node.value, (ast.Dict, ast.List))
            }
            asked, used = 0, 0
            for node in ast.walk(tree):
                if isinstance(node, ast.Compare) and isinstance(node.ops[0], (ast.In, ast.NotIn)):
                    asked += sum(isinstance(each, ast.Name) and each.id in tables for each in node.comparators)
                if isinstance(node, ast.Subscript) or isinstance(node, ast.Attribute) and node.attr == "get":
                    asked += isinstance(node.value, ast.Name) and node.value.id in tables
                used += isinstance(node, ast.Name) and isinstance(node.ctx, ast.Load) and node.id in tables
            self.assertEqual(asked, used, name)

    def test_what_stands_in_finally(self):
        for name, tree in trees():
            for node in ast.walk(tree):
                if isinstance(node, ast.Try):
                    for row in node.finalbody:
                        self.assertIsInstance(row, ast.Assign, name)
                        self.assertIsInstance(row.value, (ast.Constant, ast.Name, ast.Attribute), name)

    def test_names_of_methods_properties_and_attributes(self):
        """No name is a method of one class and an attribute or a property of another one."""
        methods, properties, stored = set(), set(), set()
        for _, tree in trees():
            for each in ast.walk(tree):
                if isinstance(each, ast.Attribute) and isinstance(each.ctx, ast.Store):
                    stored.add(each.attr)
                if isinstance(each, ast.ClassDef):
                    for node in each.body:
                        if isinstance(node, ast.FunctionDef):
                            marks = [ast.unparse(mark) for mark in node.decorator_list]
                            is_property = marks and marks[0] not in ("staticmethod", "classmethod")
                            (properties if is_property else methods).add(node.name)
        self.assertEqual((methods & properties, methods & stored, properties & stored), (set(), set(), set()))

    def test_lengths_and_truth(self):
        """What has a length may be 0 long, and is true all the same."""
        for name, tree in trees():
            for node in ast.walk(tree):
                if isinstance(node, ast.ClassDef):
                    methods = [each.name for each in node.body if isinstance(each, ast.FunctionDef)]
                    if "__len__" in methods and node.name not in ("Land", "Rota"):
                        self.assertIn("__bool__", methods, f"{name} {node.name}")


if __name__ == "__main__":
    unittest.main()
