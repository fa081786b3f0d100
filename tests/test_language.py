"""The package's files keep to the part of Python that the program is written in, as far as a test can see it."""

import ast
import builtins
import pathlib
import re
import unittest

PACKAGE = pathlib.Path(__file__).resolve().parent.parent / "proofcheck"

NODES = """
Module Expr Constant ImportFrom alias FunctionDef arguments arg Return ClassDef Assign AugAssign Name Load Store
If While For Break Continue Pass Raise Try ExceptHandler Call keyword Attribute Subscript Slice List Tuple Dict Set
BinOp UnaryOp BoolOp Compare IfExp Lambda ListComp comprehension JoinedStr FormattedValue
Add Sub Mult FloorDiv Mod Pow LShift RShift BitOr BitAnd BitXor Invert USub UAdd Not And Or
Eq NotEq Lt LtE Gt GtE Is IsNot In NotIn
""".split()

BUILTINS = """
len range enumerate zip min max sum abs sorted reversed int str bool list tuple dict set frozenset isinstance ord
repr any all divmod Exception ValueError TypeError KeyError IndexError LookupError ZeroDivisionError ArithmeticError
OverflowError RuntimeError NotImplementedError AttributeError StopIteration
""".split()

METHODS = """
append clear copy count endswith extend find get index insert isalnum isalpha isdigit islower isspace isupper items
join keys ljust lower lstrip partition pop remove replace reverse rfind rjust rpartition rsplit rstrip setdefault
split splitlines startswith strip update upper values zfill bit_length
""".split()

WORDS = """
type typing typing_extensions enum Enum IntEnum StrEnum Flag IntFlag Generic Protocol ABC ABCMeta namedtuple
NamedTuple TypedDict TYPE_CHECKING abstractmethod
""".split()

NOT_NAMES = """
register mro elements open input version_info with_traceback add_note attrgetter breakpoint builtins compile
copyright credits delattr dir eval exec exit gc getattr globals hasattr help id importlib license locals
methodcaller os quit setattr super type vars sys format format_map chr print
""".split()

DUNDERS = ("__init__", "__eq__", "__repr__", "__str__", "__len__")


WALKED = ("zip", "enumerate", "reversed", "range", "items", "keys", "values")
WALKERS = ("list", "tuple", "dict", "sorted", "sum", "any", "all", "enumerate", "zip", "min", "max")
CHANGES = ("append", "clear", "extend", "insert", "pop", "remove", "reverse", "setdefault", "update")
KEYWORDS = {"sorted": ("key", "reverse"), "min": ("key", "default"), "max": ("key", "default"), "sum": ("start",),
            "enumerate": ("start",), "zip": ("strict",)}


def called(call):
    return getattr(call.func, "id", getattr(call.func, "attr", None))


def places_to_walk(node):
    """What stands where a walk may stand."""
    if isinstance(node, (ast.For, ast.comprehension)):
        return [node.iter]
    if isinstance(node, ast.Call) and called(node) in WALKERS:
        return node.args[:1]
    return []


def changed_by(node):
    """The names of the values that a part of a row changes in place."""
    if isinstance(node, ast.Call) and isinstance(node.func, ast.Attribute) and node.func.attr in CHANGES:
        return [part.id for part in ast.walk(node.func.value) if isinstance(part, ast.Name)]
    if isinstance(node, ast.Subscript) and isinstance(node.ctx, ast.Store):
        return [part.id for part in ast.walk(node.value) if isinstance(part, ast.Name)]
    return []


def files():
    return sorted(path for path in PACKAGE.rglob("*") if "__pycache__" not in path.parts)


def trees():
    return [(path.name, ast.parse(path.read_text())) for path in files()]


def walked():
    return [(name, node) for name, tree in trees() for node in ast.walk(tree)]


def own_names():
    """Names that the package itself binds: functions, classes, methods, parameters, locals, attributes."""
    names = []
    for file, node in walked():
        if isinstance(node, (ast.FunctionDef, ast.ClassDef)):
            names.append((file, node.name))
        if isinstance(node, ast.arg):
            names.append((file, node.arg))
        if isinstance(node, ast.Name) and isinstance(node.ctx, ast.Store):
            names.append((file, node.id))
        if isinstance(node, ast.Attribute) and isinstance(node.ctx, ast.Store):
            names.append((file, node.attr))
    return names


class Files(unittest.TestCase):
    def test_only_plainly_named_files(self):
        for path in files():
            self.assertRegex(path.name, r"^([a-z][a-z0-9_]*|__init__)\.py$")
            self.assertNotIn(path.stem, dir(builtins))
        self.assertIn(PACKAGE / "__init__.py", files())

    def test_sizes_and_signs(self):
        for path in files():
            text = path.read_bytes().decode("ascii")
            self.assertRegex(text, r"\A[ -~\n]*\Z", path.name)
            lines = text.split("\n")
            self.assertLessEqual(len(lines), 400)
            self.assertLessEqual(max(len(line) for line in lines), 120)

    def test_functions_are_short(self):
        for name, node in walked():
            if isinstance(node, ast.FunctionDef):
                self.assertLessEqual(node.end_lineno - node.lineno + 1, 40, (name, node.name))

    def test_words_that_stand_nowhere(self):
        for path in files():
            words = re.findall(r"\w+", path.read_text())
            self.assertEqual(set(words) & set(WORDS), set(), path.name)
            self.assertNotRegex(path.read_text(), "dataclass|overload|contextmanager")


class Statements(unittest.TestCase):
    def test_only_the_forms_that_are_allowed(self):
        for name, node in walked():
            self.assertIn(type(node).__name__, NODES, (name, getattr(node, "lineno", None)))

    def test_the_top_of_a_file(self):
        for name, tree in trees():
            self.assertIsNotNone(ast.get_docstring(tree), name)
            for node in tree.body[1:]:
                self.assertIsInstance(node, (ast.ImportFrom, ast.FunctionDef, ast.ClassDef, ast.Assign), name)
                if isinstance(node, ast.Assign):
                    ast.literal_eval(node.value)

    def test_functions_and_classes_are_plain(self):
        for name, node in walked():
            if isinstance(node, (ast.FunctionDef, ast.ClassDef)):
                self.assertEqual(node.decorator_list, [], (name, node.name))
            if isinstance(node, ast.arguments):
                self.assertFalse(node.vararg or node.kwarg or node.kwonlyargs or node.posonlyargs, name)
            if isinstance(node, ast.ClassDef):
                self.assertLessEqual(len(node.bases), 1)
                for part in node.body:
                    self.assertTrue(isinstance(part, ast.FunctionDef) or part is node.body[0], (name, node.name))

    def test_loops_assignments_comprehensions(self):
        for name, node in walked():
            if isinstance(node, (ast.For, ast.While)):
                self.assertEqual(node.orelse, [], (name, node.lineno))
            if isinstance(node, ast.Assign):
                self.assertEqual(len(node.targets), 1, (name, node.lineno))
                self.assertNotIsInstance(node.targets[0], ast.Tuple, (name, node.lineno))
            if isinstance(node, ast.ListComp):
                self.assertEqual(len(node.generators), 1, (name, node.lineno))
                self.assertLessEqual(len(node.generators[0].ifs), 1, (name, node.lineno))

    def test_values(self):
        for name, node in walked():
            if isinstance(node, ast.Constant):
                self.assertTrue(node.value is None or isinstance(node.value, (bool, int, str)), (name, node.lineno))
            if isinstance(node, ast.Compare) and isinstance(node.ops[0], (ast.Is, ast.IsNot)):
                self.assertIn(ast.unparse(node.comparators[0]), ("None", "True", "False"), (name, node.lineno))
            if isinstance(node, ast.BinOp) and isinstance(node.op, ast.Pow):
                self.assertIsInstance(node.right, ast.Constant, (name, node.lineno))


    def test_forms_that_would_need_narrower_rules_are_not_used(self):
        for name, node in walked():
            self.assertNotIsInstance(node, (ast.Try, ast.Set, ast.Lambda, ast.JoinedStr, ast.Raise), name)
            if isinstance(node, ast.Name):
                self.assertNotIn(node.id, ("set", "frozenset", "isinstance"), (name, node.lineno))

    def test_no_annotation(self):
        for name, node in walked():
            self.assertIsNone(getattr(node, "annotation", None), name)
            self.assertIsNone(getattr(node, "returns", None), name)

    def test_texts(self):
        for name, node in walked():
            if isinstance(node, ast.Constant) and isinstance(node.value, str):
                self.assertNotIn("%", node.value, (name, node.lineno))
        for path in files():
            self.assertNotIn("\\", path.read_text(), path.name)

    def test_nothing_that_could_be_changed_stands_at_a_files_top(self):
        for name, tree in trees():
            for node in tree.body:
                if isinstance(node, ast.Assign):
                    self.assertIsInstance(node.value, ast.Constant, (name, node.lineno))


class Walks(unittest.TestCase):
    def test_what_is_walked_is_walked_on_the_spot(self):
        for name, tree in trees():
            spots = [spot for node in ast.walk(tree) for spot in places_to_walk(node)]
            for node in ast.walk(tree):
                if isinstance(node, ast.Call) and called(node) in WALKED:
                    self.assertIn(node, spots, (name, node.lineno))

    def test_keywords(self):
        for name, node in walked():
            if isinstance(node, ast.Call):
                for word in node.keywords:
                    self.assertIn(word.arg, KEYWORDS.get(called(node), ()), (name, node.lineno))

    def test_what_a_loop_walks_is_not_changed_in_it(self):
        for name, node in walked():
            if isinstance(node, ast.For):
                over = {part.id for part in ast.walk(node.iter) if isinstance(part, ast.Name)}
                changed = {target for row in node.body for part in ast.walk(row) for target in changed_by(part)}
                self.assertEqual(over & changed, set(), (name, node.lineno))


class Names(unittest.TestCase):
    def test_imports(self):
        for name, node in walked():
            if isinstance(node, ast.ImportFrom):
                self.assertEqual(node.level, 0)
                drawn = PACKAGE.parent / (node.module.replace(".", "/") + ".py")
                self.assertIn(drawn, files())
                bound = [part.name for part in ast.parse(drawn.read_text()).body
                         if isinstance(part, (ast.FunctionDef, ast.ClassDef))]
                for alias in node.names:
                    self.assertIn(alias.name, bound, name)
                    self.assertIsNone(alias.asname)

    def test_no_two_files_draw_from_one_another(self):
        draws = {name: {node.module.split(".")[1] + ".py" for node in tree.body if isinstance(node, ast.ImportFrom)}
                 for name, tree in trees()}
        while draws:
            ends = [name for name, drawn in draws.items() if not drawn & draws.keys()]
            self.assertNotEqual(ends, [], draws)
            draws = {name: drawn for name, drawn in draws.items() if name not in ends}

    def test_plain_names_that_are_not_pythons(self):
        for file, name in own_names():
            if name not in DUNDERS:
                self.assertRegex(name, "^[A-Za-z][A-Za-z0-9_]*$", file)
                self.assertNotIn(name, dir(builtins), file)
                self.assertNotIn(name, NOT_NAMES, file)

    def test_no_local_is_called_like_a_class_or_an_import_of_its_file(self):
        for file, tree in trees():
            taken = [alias.name for node in tree.body if isinstance(node, ast.ImportFrom) for alias in node.names]
            taken += [node.name for node in tree.body if isinstance(node, ast.ClassDef)]
            for node in ast.walk(tree):
                local = node.arg if isinstance(node, ast.arg) else getattr(node, "id", None)
                if isinstance(node, ast.arg) or isinstance(getattr(node, "ctx", None), ast.Store):
                    self.assertNotIn(local, taken, file)

    def test_each_name_once_at_a_files_top(self):
        for file, tree in trees():
            bound = [alias.name for node in tree.body if isinstance(node, ast.ImportFrom) for alias in node.names]
            bound += [node.name for node in tree.body if isinstance(node, (ast.FunctionDef, ast.ClassDef))]
            bound += [node.targets[0].id for node in tree.body if isinstance(node, ast.Assign)]
            self.assertEqual(len(bound), len(set(bound)), file)

    def test_pythons_own_names(self):
        for file, node in walked():
            if isinstance(node, ast.Name) and node.id in dir(builtins):
                self.assertIn(node.id, BUILTINS, (file, node.lineno))

    def test_methods_and_values(self):
        methods = {part.name for _, node in walked() if isinstance(node, ast.ClassDef)
                   for part in node.body if isinstance(part, ast.FunctionDef)}
        stored = {node.attr for _, node in walked()
                  if isinstance(node, ast.Attribute) and isinstance(node.ctx, ast.Store)}
        self.assertEqual(methods & stored, set())
        kinds = (str, int, list, tuple, dict, set, frozenset, bytes)
        pythons = {name for kind in kinds for name in dir(kind)}
        self.assertEqual((methods - set(DUNDERS)) & pythons, set())
        self.assertEqual(stored & pythons, set())
        for file, node in walked():
            if isinstance(node, ast.Attribute) and node.attr not in methods | stored:
                self.assertIn(node.attr, METHODS, (file, node.lineno))


if __name__ == "__main__":
    unittest.main()
