"""Rules of the language that the package keeps to, as far as they are easily seen."""

import ast
import os
import re
import unittest

PACKAGE = "innerfractions"
FOLDER = os.path.join(os.path.dirname(os.path.dirname(os.path.abspath(__file__))), PACKAGE)
LIBRARY = {
    "heapq": {"heappush", "heappop", "heapify", "heapreplace", "heappushpop"},
    "math": {"gcd", "lcm", "isqrt", "comb", "perm", "factorial"},
    "itertools": {"product", "combinations", "permutations"},
}
BUILTINS = set("""len range enumerate zip min max sum abs sorted reversed int str bool bytes list tuple dict set frozenset
    isinstance ord repr any all divmod Exception ValueError TypeError KeyError IndexError LookupError ZeroDivisionError
    ArithmeticError OverflowError RuntimeError NotImplementedError AttributeError StopIteration NotImplemented
    iter next map super property staticmethod classmethod""".split())
METHODS = set("""append clear copy count endswith extend find get index insert isalnum isalpha isdigit islower isspace isupper
    items join keys ljust lower lstrip partition pop remove replace reverse rfind rjust rpartition rsplit rstrip setdefault
    split splitlines startswith strip update upper values zfill bit_length""".split())
BARRED = set("register mro elements open input law version_info with_traceback add_note".split())
BARRED_NAMES = set("""attrgetter breakpoint builtins compile copyright credits delattr dir eval exec exit gc getattr globals
    hasattr help id importlib license locals methodcaller os quit setattr super type vars sys""".split())
BARRED_WORDS = set("""type typing typing_extensions enum Enum IntEnum StrEnum Flag IntFlag Generic Protocol ABC ABCMeta
    namedtuple NamedTuple TypedDict TYPE_CHECKING abstractmethod dataclass overload contextmanager""".split())
DOUBLE = set("""__init__ __eq__ __repr__ __str__ __len__ __add__ __sub__ __mul__ __radd__ __rsub__ __rmul__ __neg__
    __contains__ __getitem__ __iter__ __call__ __enter__ __exit__""".split())
# Of the double-underscore methods those that may change what they like; of the classes those whose methods may.
FREE = {"__init__", "__call__", "__enter__", "__exit__", "__iter__"}
CHANGING = {"Desk", "Trial"}
STATEMENTS = (
    ast.Assign, ast.AugAssign, ast.If, ast.While, ast.For, ast.Return, ast.Break, ast.Continue, ast.Pass, ast.Raise, ast.Assert,
    ast.Delete, ast.Nonlocal, ast.Match, ast.With, ast.Try, ast.Expr, ast.FunctionDef, ast.ClassDef, ast.ImportFrom,
)


def file_names():
    return sorted(name for name in os.listdir(FOLDER) if name != "__pycache__")


def text_of(name):
    with open(os.path.join(FOLDER, name), encoding="utf-8", newline="") as file:
        return file.read()


def trees():
    return [(name, ast.parse(text_of(name))) for name in file_names()]


def nodes(tree, *kinds):
    return [node for node in ast.walk(tree) if isinstance(node, kinds)]


def assigned_names(tree):
    """All names that a tree binds: parameters, targets, functions, classes, imports."""
    names = [node.id for node in nodes(tree, ast.Name) if isinstance(node.ctx, ast.Store)]
    names += [node.arg for node in nodes(tree, ast.arg)]
    names += [node.name for node in nodes(tree, ast.FunctionDef, ast.ClassDef)]
    names += [part.asname or part.name for node in nodes(tree, ast.ImportFrom) for part in node.names]
    names += [node.name for node in nodes(tree, ast.ExceptHandler) if node.name]
    return names


def is_property(function):
    return any(isinstance(part, ast.Name) and part.id == "property" for part in function.decorator_list)


class Files(unittest.TestCase):
    def test_names(self):
        for name in file_names():
            self.assertRegex(name, r"^[a-z0-9_]+\.py$")

    def test_characters_and_sizes(self):
        for name in file_names():
            text = text_of(name)
            self.assertRegex(text, r"\A[ -~\n]*\Z", name)
            lines = text.split("\n")
            self.assertLessEqual(len(lines), 399, name)
            self.assertLessEqual(max(len(line) for line in lines), 120, name)

    def test_functions_are_small(self):
        for name, tree in trees():
            for node in nodes(tree, ast.FunctionDef):
                self.assertLessEqual(node.end_lineno - node.lineno + 1, 40, (name, node.name))


class Imports(unittest.TestCase):
    def test_stand_at_the_top(self):
        for name, tree in trees():
            kinds = [isinstance(node, ast.ImportFrom) for node in tree.body[1:]]
            self.assertEqual(kinds, sorted(kinds, reverse=True), name)
            self.assertEqual(len(nodes(tree, ast.ImportFrom)), sum(kinds), name)
            self.assertEqual(nodes(tree, ast.Import), [], name)

    def test_name_the_file_that_defines(self):
        defined = {name[:-3]: {node.name for node in tree.body if isinstance(node, (ast.FunctionDef, ast.ClassDef))} | {
            target.id for node in tree.body if isinstance(node, ast.Assign) for target in node.targets
        } for name, tree in trees()}
        for name, tree in trees():
            for node in nodes(tree, ast.ImportFrom):
                self.assertEqual(node.level, 0)
                for part in node.names:
                    if node.module in LIBRARY:
                        self.assertIn(part.name, LIBRARY[node.module])
                        self.assertIsNone(part.asname)
                    else:
                        head, _, file = node.module.partition(".")
                        self.assertEqual(head, PACKAGE)
                        self.assertIn(part.name, defined[file], (name, part.name))

    def test_no_rings(self):
        needs = {name[:-3]: {node.module.partition(".")[2] for node in nodes(tree, ast.ImportFrom) if "." in node.module}
                 for name, tree in trees()}
        self.assertEqual(needs["__init__"], set())
        while needs:
            free = [name for name, others in needs.items() if not others & set(needs)]
            self.assertTrue(free, needs)
            for name in free:
                del needs[name]

    def test_all_are_used(self):
        for name, tree in trees():
            used = {node.id for node in nodes(tree, ast.Name)}
            for node in nodes(tree, ast.ImportFrom):
                for part in node.names:
                    self.assertIn(part.asname or part.name, used, name)


class Names(unittest.TestCase):
    def test_module_level(self):
        for name, tree in trees():
            bound = []
            for node in tree.body:
                self.assertIsInstance(node, (ast.Expr, ast.ImportFrom, ast.FunctionDef, ast.ClassDef, ast.Assign), name)
                bound += assigned_names(ast.Module([node], [])) if isinstance(node, (ast.Assign, ast.ImportFrom)) else []
                bound += [node.name] if isinstance(node, (ast.FunctionDef, ast.ClassDef)) else []
            self.assertEqual(len(bound), len(set(bound)), name)

    def test_builtins(self):
        known = set(dir(__builtins__) if not isinstance(__builtins__, dict) else __builtins__)
        for name, tree in trees():
            own = set(assigned_names(tree))
            methods = {part.name for node in nodes(tree, ast.ClassDef) for part in node.body if isinstance(part, ast.FunctionDef)}
            self.assertEqual((own - methods - {"_"}) & known, set(), name)
            for node in nodes(tree, ast.Name):
                self.assertTrue(node.id in own or node.id in BUILTINS, (name, node.id))

    def test_no_imports_and_classes_as_variables(self):
        for name, tree in trees():
            tops = {part.asname or part.name for node in nodes(tree, ast.ImportFrom) for part in node.names}
            tops |= {node.name for node in nodes(tree, ast.ClassDef)}
            for node in nodes(tree, ast.FunctionDef):
                inner = {part.id for part in nodes(node, ast.Name) if isinstance(part.ctx, ast.Store)}
                inner |= {part.arg for part in nodes(node, ast.arg)}
                self.assertEqual(inner & tops, set(), (name, node.name))

    def test_barred(self):
        for name, tree in trees():
            bound = set(assigned_names(tree))
            read = {node.attr for node in nodes(tree, ast.Attribute)}
            self.assertEqual((bound | read) & BARRED, set(), name)
            self.assertEqual(bound & BARRED_NAMES, set(), name)
            for one in bound:
                self.assertRegex(one, r"^(_|_?[A-Za-z][A-Za-z0-9_]*|__[a-z]+__)$")
                self.assertTrue(not one.startswith("__") or one in DOUBLE, one)
            for text in [node.value for node in nodes(tree, ast.Constant) if isinstance(node.value, str)] + list(bound | read):
                self.assertNotIn("_wall", text)
                self.assertFalse(re.search(r"dataclass|overload|contextmanager", text), (name, text))
            self.assertEqual((bound | read) & BARRED_WORDS, set(), name)

    def test_methods(self):
        own = {node.name for _, tree in trees() for node in nodes(tree, ast.FunctionDef)}
        stored = {node.attr for _, tree in trees() for node in nodes(tree, ast.Attribute) if isinstance(node.ctx, ast.Store)}
        for name, tree in trees():
            for node in nodes(tree, ast.Attribute):
                self.assertTrue(node.attr in own | stored | METHODS, (name, node.attr))


class Statements(unittest.TestCase):
    def test_kinds(self):
        for name, tree in trees():
            for node in nodes(tree, ast.stmt):
                self.assertIsInstance(node, STATEMENTS, (name, node.lineno))
            self.assertEqual(nodes(tree, ast.GeneratorExp, ast.Yield, ast.YieldFrom, ast.Await, ast.Div), [], name)

    def test_values(self):
        for name, tree in trees():
            for node in nodes(tree, ast.Constant):
                self.assertNotIsInstance(node.value, (float, complex, bytes))
                if isinstance(node.value, str):
                    self.assertNotIn("%", node.value)
            for node in nodes(tree, ast.BinOp):
                if isinstance(node.op, ast.Pow):
                    self.assertIsInstance(node.right, ast.Constant, (name, node.lineno))

    def test_stars_stand_before_names(self):
        for _, tree in trees():
            for node in nodes(tree, ast.Call):
                for part in node.args:
                    if isinstance(part, ast.Starred):
                        self.assertIsInstance(part.value, (ast.Name, ast.List, ast.Tuple))
                for part in node.keywords:
                    self.assertIsNotNone(part.arg)

    def test_defaults_are_plain(self):
        for _, tree in trees():
            for node in nodes(tree, ast.arguments):
                for part in node.defaults:
                    self.assertIsInstance(ast.literal_eval(part), (int, str, tuple, bool))

    def test_is_with_constants_alone(self):
        for name, tree in trees():
            for node in nodes(tree, ast.Compare):
                for sign, part in zip(node.ops, node.comparators):
                    if isinstance(sign, (ast.Is, ast.IsNot)):
                        self.assertIn(ast.unparse(part), ("None", "True", "False"), name)

    def test_errors_are_made_on_the_spot(self):
        for name, tree in trees():
            for node in nodes(tree, ast.Raise):
                self.assertIsInstance(node.exc, ast.Call, name)
                self.assertIsInstance(node.exc.func, ast.Name, name)

    def test_own_errors_are_caught(self):
        own = {node.name for _, tree in trees() for node in nodes(tree, ast.ClassDef)}
        for name, tree in trees():
            for node in nodes(tree, ast.ExceptHandler):
                caught = node.type.elts if isinstance(node.type, ast.Tuple) else [node.type]
                self.assertTrue({part.id for part in caught} <= own, name)

    def test_reversed_of_lists_alone(self):
        # Objects with __getitem__ could be taken for lists.
        for name, tree in trees():
            for node in nodes(tree, ast.Call):
                if isinstance(node.func, ast.Name) and node.func.id == "reversed":
                    self.assertIn(node.args[0].func.id, ("list", "tuple", "sorted", "range"), name)

    def test_blocks_are_left_by_assignments_alone(self):
        for name, tree in trees():
            for held in nodes(tree, ast.ClassDef):
                methods = {node.name: node for node in held.body if isinstance(node, ast.FunctionDef)}
                self.assertEqual("__enter__" in methods, "__exit__" in methods, name)
                self.assertTrue("__getitem__" not in methods or "__iter__" in methods, name)
                for row in methods["__exit__"].body if "__exit__" in methods else []:
                    self.assertIsInstance(row, ast.Assign)
                    self.assertIsInstance(row.value, ast.Attribute)

    def test_names_in_inner_comprehensions(self):
        kinds = (ast.ListComp, ast.DictComp, ast.SetComp)
        for name, tree in trees():
            for function in nodes(tree, ast.FunctionDef):
                inner = {id(part) for node in nodes(function, *kinds) for part in nodes(node, *kinds) if part is not node}
                variables = {part.id for node in nodes(function, *kinds) for held in node.generators for part in nodes(held.target, ast.Name)}
                stored = {part.id for part in nodes(function, ast.Name) if isinstance(part.ctx, ast.Store)} - variables
                stored |= {part.id for loop in nodes(function, ast.For) for part in nodes(loop.target, ast.Name)}
                stored |= {part.id for row in nodes(function, ast.Assign) for held in row.targets for part in nodes(held, ast.Name)}
                for node in [node for node in nodes(function, *kinds) if id(node) in inner]:
                    own = {part.id for held in node.generators for part in nodes(held.target, ast.Name)}
                    self.assertEqual(own & stored - {"_"}, set(), (name, function.name))


class Operators(unittest.TestCase):
    """What operators, properties and texts run changes nothing that it did not create itself."""

    def reached(self):
        functions, started = {}, []
        for _, tree in trees():
            for node in nodes(tree, ast.FunctionDef):
                functions.setdefault(node.name, []).append(node)
            for held in nodes(tree, ast.ClassDef):
                methods = [node for node in held.body if isinstance(node, ast.FunctionDef)]
                operators = [node for node in methods if node.name in DOUBLE - FREE or is_property(node)]
                started += methods if operators and held.name not in CHANGING else operators
        found, left = [], started
        while left:
            node = left.pop()
            found.append(node)
            names = [call.func.id for call in nodes(node, ast.Call) if isinstance(call.func, ast.Name)]
            names += [call.func.attr for call in nodes(node, ast.Call) if isinstance(call.func, ast.Attribute)]
            left += [other for name in names for other in functions.get(name, []) if other not in found and other not in left]
        return found

    def test_they_change_nothing(self):
        reached = self.reached()
        self.assertGreater(len(reached), 30)
        for node in reached:
            for part in nodes(node, ast.Subscript, ast.Attribute):
                if node.name != "__init__":
                    self.assertIsInstance(part.ctx, ast.Load, (node.name, part.lineno))
            for part in nodes(node, ast.AugAssign):
                self.assertIsInstance(part.value, ast.Constant, (node.name, part.lineno))
            created = {
                target.id for part in nodes(node, ast.Assign) if isinstance(part.value, (ast.List, ast.ListComp))
                for target in part.targets if isinstance(target, ast.Name)
            }
            for call in nodes(node, ast.Call):
                if isinstance(call.func, ast.Attribute) and call.func.attr in ("append", "extend", "insert", "pop", "clear"):
                    self.assertIn(call.func.value.id, created, node.name)

    def test_they_call_nothing_that_they_are_passed(self):
        for node in self.reached():
            parameters = {part.arg for part in nodes(node, ast.arg)} - {"cls"}
            for call in nodes(node, ast.Call):
                if isinstance(call.func, ast.Name):
                    self.assertNotIn(call.func.id, parameters, node.name)


if __name__ == "__main__":
    unittest.main()
