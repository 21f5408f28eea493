"""The form of the package's files: what of LANGUAGE.md can be seen from the outside, rule by rule."""

import ast
import builtins
import re
import unittest
from pathlib import Path

PACKAGE = Path(__file__).resolve().parent.parent / "midvalue"

NODES = set("""
Module FunctionDef arguments arg ClassDef Return Assign AugAssign For While If Raise Try ExceptHandler ImportFrom alias
Expr Pass Break Continue BoolOp And Or BinOp Add Sub Mult FloorDiv Mod Pow LShift RShift BitOr BitXor BitAnd
UnaryOp Not USub Invert Lambda IfExp Dict ListComp comprehension Compare Eq NotEq Lt LtE Gt GtE Is IsNot In NotIn
Call keyword JoinedStr FormattedValue Constant Attribute Subscript Slice Name List Tuple Load Store
""".split())

BUILTINS = set("""
len range enumerate zip min max sum abs sorted reversed int str bool list tuple dict set frozenset isinstance ord repr
any all divmod Exception ValueError TypeError KeyError IndexError LookupError ZeroDivisionError ArithmeticError
OverflowError RuntimeError NotImplementedError AttributeError StopIteration
""".split())

METHODS = set("""
append clear copy count endswith extend find get index insert isalnum isalpha isdigit islower isspace isupper items
join keys ljust lower lstrip partition pop remove replace reverse rfind rjust rpartition rsplit rstrip setdefault split
splitlines startswith strip update upper values zfill bit_length
""".split())

WORDS = re.compile(r"""\b(type|typing|typing_extensions|enum|Enum|IntEnum|StrEnum|Flag|IntFlag|Generic|Protocol|ABC
|ABCMeta|namedtuple|NamedTuple|TypedDict|TYPE_CHECKING|abstractmethod)\b|dataclass|overload|contextmanager""", re.X)

NOT_USED = set("""
register mro elements open input version_info with_traceback add_note attrgetter breakpoint builtins compile copyright
credits delattr dir eval exec exit gc getattr globals hasattr help id importlib license locals methodcaller os quit
setattr super type vars sys __name__
""".split())

KEYWORDS = {
    "sorted": {"key", "reverse"}, "min": {"key", "default"}, "max": {"key", "default"}, "sum": {"start"},
    "enumerate": {"start"}, "zip": {"strict"}}

# What is walked on the spot, and the calls that walk it as their first thing.
WALKED = {"zip", "enumerate", "reversed", "range", "items", "keys", "values"}
WALKERS = {"list", "tuple", "dict", "sorted", "sum", "any", "all", "enumerate", "zip", "min", "max", "join"}

PYTHONS_OWN = {name for kind in (str, int, list, dict, set, bytes) for name in dir(kind)}


def files():
    return sorted(path for path in PACKAGE.rglob("*") if "__pycache__" not in path.parts)


def trees():
    return [(path.name, ast.parse(path.read_text())) for path in files()]


def nodes(*kinds):
    return [(name, node) for name, tree in trees() for node in ast.walk(tree) if isinstance(node, kinds)]


def name_of(node):
    """The name that a call calls, of a function or of a method."""
    return node.func.id if isinstance(node.func, ast.Name) else node.func.attr


def drawn_from():
    return {f"midvalue.{name[:-3]}": {node.module for node in ast.walk(tree) if isinstance(node, ast.ImportFrom)}
            for name, tree in trees()}


def bound_at_top(tree):
    names = [node.name for node in tree.body if isinstance(node, (ast.FunctionDef, ast.ClassDef))]
    names += [part.asname or part.name for node in tree.body if isinstance(node, ast.ImportFrom) for part in node.names]
    return names + [node.targets[0].id for node in tree.body if isinstance(node, ast.Assign)]


def stored_values():
    return {node.attr for name, node in nodes(ast.Attribute) if isinstance(node.ctx, ast.Store)}


def own_methods():
    return {part.name for name, node in nodes(ast.ClassDef) for part in node.body if isinstance(part, ast.FunctionDef)}


class Text(unittest.TestCase):
    def test_files(self):
        for path in files():
            self.assertRegex(path.name, r"^([a-z][a-z0-9_]*|__init__|__main__)\.py$")

    def test_signs_and_sizes(self):
        for path in files():
            text = path.read_text()
            self.assertRegex(text, r"\A[\n -~]*\Z", path.name)
            rows = text.split("\n")
            self.assertLessEqual(len(rows), 400, path.name)
            self.assertLessEqual(max(len(row) for row in rows), 120, path.name)
            self.assertIsNone(WORDS.search(text), path.name)

    def test_functions_are_short(self):
        for name, node in nodes(ast.FunctionDef):
            self.assertLessEqual(node.end_lineno - node.lineno + 1, 40, (name, node.name))


class Tree(unittest.TestCase):
    def test_nodes(self):
        for name, tree in trees():
            for node in ast.walk(tree):
                self.assertIn(node.__class__.__name__, NODES, (name, getattr(node, "lineno", 0)))

    def test_imports(self):
        ours = {f"midvalue.{path.stem}" for path in files()}
        for name, node in nodes(ast.ImportFrom):
            self.assertIn(node.module, ours, name)
            self.assertEqual(node.level, 0, name)
            self.assertNotIn("*", [part.name for part in node.names], name)

    def test_top_of_each_file(self):
        for name, tree in trees():
            for number, node in enumerate(tree.body):
                is_docstring = number == 0 and isinstance(node, ast.Expr) and isinstance(node.value, ast.Constant)
                is_part = isinstance(node, (ast.ImportFrom, ast.FunctionDef, ast.ClassDef, ast.Assign))
                self.assertTrue(is_docstring or is_part, (name, node.lineno))

    def test_functions_and_classes_are_plain(self):
        for name, node in nodes(ast.FunctionDef, ast.ClassDef):
            self.assertEqual(node.decorator_list, [], (name, node.name))
        for name, node in nodes(ast.arguments):
            self.assertFalse(node.vararg or node.kwarg or node.kwonlyargs or node.posonlyargs, name)
        for name, node in nodes(ast.ClassDef):
            self.assertLessEqual(len(node.bases), 1, (name, node.name))
            for part in node.body:
                self.assertIsInstance(part, (ast.FunctionDef, ast.Pass), (name, part.lineno))

    def test_assignments_have_one_target(self):
        for name, node in nodes(ast.Assign):
            self.assertEqual(len(node.targets), 1, (name, node.lineno))
            self.assertNotIsInstance(node.targets[0], (ast.Tuple, ast.List), (name, node.lineno))

    def test_calls_alone_stand_by_themselves(self):
        for name, tree in trees():
            for node in ast.walk(tree):
                if isinstance(node, ast.Expr) and node is not tree.body[0]:
                    self.assertIsInstance(node.value, ast.Call, (name, node.lineno))

    def test_loops_and_comprehensions(self):
        for name, node in nodes(ast.For, ast.While):
            self.assertEqual(node.orelse, [], (name, node.lineno))
        for name, node in nodes(ast.ListComp):
            self.assertEqual(len(node.generators), 1, (name, node.lineno))
            self.assertLessEqual(len(node.generators[0].ifs), 1, (name, node.lineno))

    def test_is_beside_none_true_and_false_alone(self):
        for name, node in nodes(ast.Compare):
            for sign, right in zip(node.ops, node.comparators):
                if isinstance(sign, (ast.Is, ast.IsNot)):
                    self.assertIn(ast.unparse(right), ("None", "True", "False"), (name, node.lineno))

    def test_values_written_out(self):
        for name, node in nodes(ast.Constant):
            self.assertTrue(node.value is None or isinstance(node.value, (int, str)), (name, node.lineno))
            self.assertNotIn("%", str(node.value), (name, node.lineno))


    def test_imports_run_in_no_circle(self):
        left = drawn_from()
        while left:
            free = [name for name, modules in left.items() if not modules & set(left)]
            self.assertTrue(free, left)
            left = {name: modules for name, modules in left.items() if name not in free}

    def test_imports_are_from_the_file_that_defines_the_name(self):
        defined = {f"midvalue.{name[:-3]}": {node.name for node in tree.body if hasattr(node, "name")}
                   for name, tree in trees()}
        for name, node in nodes(ast.ImportFrom):
            for part in node.names:
                self.assertIn(part.name, defined[node.module], name)

    def test_init_is_empty(self):
        self.assertEqual((PACKAGE / "__init__.py").read_text(), "")

    def test_the_top_holds_no_list_and_no_dict(self):
        # Narrower than L15, which asks more of those that there are.
        for name, tree in trees():
            for node in tree.body:
                if isinstance(node, ast.Assign):
                    kinds = {part.__class__ for part in ast.walk(node.value)}
                    self.assertLessEqual(kinds, {ast.Tuple, ast.Constant, ast.Load, ast.UnaryOp, ast.USub}, name)

    def test_f_strings_hold_plain_names(self):
        for name, node in nodes(ast.FormattedValue):
            self.assertIsInstance(node.value, ast.Name, (name, node.lineno))
            self.assertIsNone(node.format_spec, (name, node.lineno))
            self.assertIn(node.conversion, (-1, ord("r")), (name, node.lineno))

    def test_escapes(self):
        for path in files():
            for found in re.findall(r"\\.", path.read_text()):
                self.assertIn(found[1], "nt\\\"'", path.name)

    def test_errors_are_raised_on_the_spot_and_taken_by_name(self):
        own = {node.name for name, node in nodes(ast.ClassDef)}
        for name, node in nodes(ast.Raise):
            self.assertIn(name_of(node.exc), own, (name, node.lineno))
        for name, node in nodes(ast.ExceptHandler):
            self.assertIn(node.type.id, own, (name, node.lineno))
        for name, node in nodes(ast.Try):
            self.assertEqual(node.finalbody, [], (name, node.lineno))

    def test_walked_on_the_spot(self):
        for name, tree in trees():
            calls = [node for node in ast.walk(tree) if isinstance(node, ast.Call)]
            spots = [node.iter for node in ast.walk(tree) if isinstance(node, (ast.For, ast.comprehension))]
            spots += [node.args[0] for node in calls if name_of(node) in WALKERS and node.args]
            spots += [part for node in calls if name_of(node) == "zip" for part in node.args]
            for node in calls:
                if name_of(node) in WALKED:
                    self.assertIn(node, spots, (name, node.lineno))

    def test_keywords(self):
        for name, node in nodes(ast.Call):
            used = {part.arg for part in node.keywords}
            self.assertLessEqual(used, KEYWORDS.get(name_of(node), set()), (name, node.lineno))

    def test_methods_are_called_where_they_stand(self):
        known = METHODS | own_methods()
        for name, tree in trees():
            called = [node.func for node in ast.walk(tree) if isinstance(node, ast.Call)]
            for node in ast.walk(tree):
                if isinstance(node, ast.Attribute) and node.attr in known:
                    self.assertIn(node, called, (name, node.lineno))

    def test_init_gives_back_nothing(self):
        for name, node in nodes(ast.FunctionDef):
            if node.name == "__init__":
                found = [part for part in ast.walk(node) if isinstance(part, ast.Return) and part.value]
                self.assertEqual(found, [], name)


class Names(unittest.TestCase):
    def test_bound_names_are_plain_and_not_pythons_own(self):
        bound = [(name, node.id) for name, node in nodes(ast.Name) if isinstance(node.ctx, ast.Store)]
        bound += [(name, node.arg) for name, node in nodes(ast.arg)]
        bound += [(name, node.name) for name, node in nodes(ast.ClassDef, ast.FunctionDef) if node.name != "__init__"]
        for name, word in bound:
            self.assertRegex(word, r"^[A-Za-z][A-Za-z0-9_]*$", name)
            self.assertFalse(hasattr(builtins, word), (name, word))

    def test_pythons_own_names_that_are_read(self):
        for name, node in nodes(ast.Name):
            if hasattr(builtins, node.id):
                self.assertIn(node.id, BUILTINS, (name, node.lineno))

    def test_each_top_name_is_bound_once_and_by_no_local(self):
        for name, tree in trees():
            top = bound_at_top(tree)
            self.assertEqual(len(top), len(set(top)), name)
            inner = [node.arg for node in ast.walk(tree) if isinstance(node, ast.arg)]
            for part in ast.walk(tree):
                if isinstance(part, ast.FunctionDef):
                    inner += [node.id for node in ast.walk(part)
                              if isinstance(node, ast.Name) and isinstance(node.ctx, ast.Store)]
            self.assertEqual(set(top) & set(inner), set(), name)

    def test_names_that_are_not_used(self):
        for name, node in nodes(ast.Name):
            self.assertNotIn(node.id, NOT_USED | {"set", "frozenset", "chr"}, (name, node.lineno))

    def test_attributes(self):
        known = METHODS | stored_values() | own_methods()
        for name, node in nodes(ast.Attribute):
            self.assertIn(node.attr, known, (name, node.lineno))

    def test_own_methods_and_values(self):
        self.assertEqual(stored_values() & own_methods(), set())
        self.assertEqual(stored_values() & PYTHONS_OWN, set())
        self.assertLessEqual(own_methods() & PYTHONS_OWN, METHODS | {"__init__"})


if __name__ == "__main__":
    unittest.main()
