"""Holds the package's files to the rules of LANGUAGE.md that can be seen in one file's tree."""

import ast
import builtins
import os
import re
import unittest

PACKAGE = os.path.join(os.path.dirname(os.path.dirname(os.path.abspath(__file__))), "rankpouch")

BUILTINS = set("""len range enumerate zip min max sum abs sorted reversed int str bool list tuple dict set frozenset
    isinstance ord repr any all divmod Exception ValueError TypeError KeyError IndexError LookupError
    ZeroDivisionError ArithmeticError OverflowError RuntimeError NotImplementedError AttributeError
    StopIteration""".split())
METHODS = set("""append clear copy count endswith extend find get index insert isalnum isalpha isdigit islower isspace
    isupper items join keys ljust lower lstrip partition pop remove replace reverse rfind rjust rpartition rsplit
    rstrip setdefault split splitlines startswith strip update upper values zfill bit_length""".split())
PYTHONS = {name for kind in (str, int, list, tuple, dict, set, frozenset, bytes, bytearray) for name in dir(kind)}
VALUES = set("count index title find get join lower upper split strip copy add".split())
WALKERS = set("list tuple dict sorted sum any all enumerate zip min max".split())
KEYWORDS = {"sorted": ("key", "reverse"), "min": ("key", "default"), "max": ("key", "default"), "sum": ("start",),
            "enumerate": ("start",), "zip": ("strict",)}
UNDERSCORED = {"__init__", "__eq__", "__repr__", "__str__", "__len__"}
WORDS = re.compile(r"""\b(type|typing|typing_extensions|enum|Enum|IntEnum|StrEnum|Flag|IntFlag|Generic|Protocol|ABC
    |ABCMeta|namedtuple|NamedTuple|TypedDict|TYPE_CHECKING|abstractmethod)\b|dataclass|overload|contextmanager""",
                   re.VERBOSE)
NODES = tuple(getattr(ast, name) for name in """Module ImportFrom alias FunctionDef ClassDef arguments arg Lambda
    Assign AugAssign If While For Return Break Continue Pass Raise Try ExceptHandler Expr
    Constant List Tuple Dict Set JoinedStr FormattedValue BinOp UnaryOp BoolOp Compare IfExp Call keyword Attribute
    Subscript Slice Name ListComp comprehension Load Store And Or Not USub UAdd Invert
    Add Sub Mult FloorDiv Mod Pow BitAnd BitOr BitXor LShift RShift
    Eq NotEq Lt LtE Gt GtE Is IsNot In NotIn""".split())


def files():
    return sorted(name for name in os.listdir(PACKAGE) if name != "__pycache__")


def source(name):
    with open(os.path.join(PACKAGE, name), encoding="utf-8", newline="") as file:
        return file.read()


def trees():
    return [(name, ast.parse(source(name))) for name in files()]


def nodes(*kinds):
    return [(name, node) for name, tree in trees() for node in ast.walk(tree) if isinstance(node, kinds)]


def own_methods():
    return {part.name for _, node in nodes(ast.ClassDef) for part in node.body if isinstance(part, ast.FunctionDef)}


def own_values():
    return {node.attr for _, node in nodes(ast.Attribute) if isinstance(node.ctx, ast.Store)}


def parents(tree):
    return {child: node for node in ast.walk(tree) for child in ast.iter_child_nodes(node)}


def called(node):
    """The name or the method that a call calls, or None where it is no call."""
    if not isinstance(node, ast.Call):
        return None
    return node.func.id if isinstance(node.func, ast.Name) else node.func.attr


class Language(unittest.TestCase):
    def test_files(self):
        self.assertIn("__init__.py", files())
        for name in files():
            self.assertRegex(name, r"^([a-z][a-z0-9_]*|__init__)\.py$")

    def test_signs_words_and_sizes(self):
        for name in files():
            text = source(name)
            self.assertRegex(text, r"\A[\n -~]*\Z", name)
            self.assertIsNone(WORDS.search(text), name)
            self.assertLessEqual(len(text.splitlines()), 400, name)
            for line in text.splitlines():
                self.assertLessEqual(len(line), 120, name)

    def test_statements_and_expressions(self):
        for name, tree in trees():
            for node in ast.walk(tree):
                self.assertIsInstance(node, NODES, f"{name}: {ast.dump(node)[:80]}")
        for name, node in nodes(ast.For, ast.While):
            self.assertEqual(node.orelse, [], name)
        for name, node in nodes(ast.Try):
            self.assertEqual(node.finalbody, [], name)
        for name, node in nodes(ast.Constant):
            self.assertTrue(node.value is None or isinstance(node.value, (bool, int, str)), name)
            self.assertFalse(isinstance(node.value, str) and "%" in node.value, name)
        for name, node in nodes(ast.FormattedValue):
            self.assertIsInstance(node.value, ast.Name, name)

    def test_the_top_of_a_module(self):
        for name, tree in trees():
            for node in tree.body[1:]:
                self.assertIsInstance(node, (ast.ImportFrom, ast.FunctionDef, ast.ClassDef, ast.Assign), name)
                if isinstance(node, ast.Assign):
                    self.assertIsInstance(node.value, ast.Constant, f"{name}: {node.lineno}")

    def test_escapes(self):
        for name in files():
            self.assertIsNone(re.search(r"""\\[^nt\\"']""", source(name)), name)

    def test_no_lone_value_but_a_module_docstring(self):
        for name, tree in trees():
            docstring = tree.body[0]
            for node in ast.walk(tree):
                if isinstance(node, ast.Expr) and node is not docstring:
                    self.assertIsInstance(node.value, ast.Call, f"{name}: {node.lineno}")

    def test_one_plain_target(self):
        for name, node in nodes(ast.Assign):
            self.assertEqual(len(node.targets), 1, name)
            self.assertNotIsInstance(node.targets[0], (ast.Tuple, ast.List), f"{name}: {node.lineno}")

    def test_functions(self):
        for name, node in nodes(ast.FunctionDef):
            self.assertLessEqual(node.end_lineno - node.lineno + 1, 40, node.name)
            self.assertEqual(node.decorator_list, [], node.name)
            taken = node.args
            self.assertIsNone(taken.vararg or taken.kwarg, node.name)
            self.assertEqual(taken.kwonlyargs + taken.posonlyargs, [], node.name)

    def test_classes(self):
        for name, node in nodes(ast.ClassDef):
            self.assertLessEqual(len(node.bases), 1, node.name)
            self.assertEqual(node.decorator_list + node.keywords, [], node.name)
            for part in node.body:
                self.assertIsInstance(part, (ast.FunctionDef, ast.Pass), node.name)

    def test_imports_come_from_the_package_and_never_back(self):
        drawn = {name[:-3]: [] for name in files()}
        for name, node in nodes(ast.ImportFrom):
            self.assertEqual(node.level, 0, name)
            self.assertRegex(node.module, r"^rankpouch\.\w+$", name)
            self.assertNotIn("*", [part.name for part in node.names], name)
            drawn[name[:-3]].append(node.module.split(".")[1])
        while drawn:
            free = [name for name, others in drawn.items() if not any(other in drawn for other in others)]
            self.assertNotEqual(free, [], drawn)
            drawn = {name: others for name, others in drawn.items() if name not in free}

    def test_names(self):
        bound = [(name, node.id) for name, node in nodes(ast.Name) if isinstance(node.ctx, ast.Store)]
        bound += [(name, node.arg) for name, node in nodes(ast.arg)]
        bound += [(name, node.name) for name, node in nodes(ast.FunctionDef, ast.ClassDef)]
        for name, word in bound:
            self.assertTrue(word in UNDERSCORED or not word.startswith("_"), f"{name}: {word}")
            self.assertNotIn(word, dir(builtins), name)
        for name, node in nodes(ast.Name):
            if isinstance(node.ctx, ast.Load) and node.id in dir(builtins):
                self.assertIn(node.id, BUILTINS, name)

    def test_methods(self):
        own = {node.name for _, node in nodes(ast.FunctionDef)}
        for name, node in nodes(ast.Call):
            if isinstance(node.func, ast.Attribute):
                self.assertIn(node.func.attr, METHODS | own, f"{name}: {node.lineno}")

    def test_no_name_is_a_method_here_and_a_value_there(self):
        self.assertEqual(own_methods() & own_values(), set())

    def test_methods_and_values_are_not_called_like_those_of_python(self):
        self.assertEqual((own_methods() - UNDERSCORED) & (PYTHONS - METHODS - {"add", "discard"}), set())
        self.assertEqual(own_values() & ((PYTHONS - VALUES) | {"args", "sort"}), set())

    def test_no_method_stands_twice(self):
        for name, node in nodes(ast.ClassDef):
            names = [part.name for part in node.body if isinstance(part, ast.FunctionDef)]
            self.assertEqual(len(names), len(set(names)), node.name)

    def test_each_name_once_at_the_top(self):
        for name, tree in trees():
            bound = [part.asname or part.name for node in tree.body if isinstance(node, ast.ImportFrom)
                     for part in node.names]
            bound += [node.name for node in tree.body if isinstance(node, (ast.FunctionDef, ast.ClassDef))]
            bound += [node.targets[0].id for node in tree.body if isinstance(node, ast.Assign)]
            self.assertEqual(len(bound), len(set(bound)), name)

    def test_no_local_is_called_like_an_import_or_a_class_of_its_file(self):
        for name, tree in trees():
            taken = {part.name for node in tree.body if isinstance(node, ast.ImportFrom) for part in node.names}
            taken |= {node.name for node in tree.body if isinstance(node, ast.ClassDef)}
            for node in ast.walk(tree):
                if isinstance(node, ast.arg):
                    self.assertNotIn(node.arg, taken, f"{name}: {node.lineno}")
                if isinstance(node, ast.Name) and isinstance(node.ctx, ast.Store):
                    self.assertNotIn(node.id, taken, f"{name}: {node.lineno}")

    def test_a_class_is_called_or_asked_for_and_nothing_else(self):
        classes = {node.name for _, node in nodes(ast.ClassDef)}
        for name, tree in trees():
            above = parents(tree)
            for node in ast.walk(tree):
                if isinstance(node, ast.Name) and node.id in classes:
                    over = above[node]
                    # Base.__init__(self, ..) is how a base's own is called.
                    begun = isinstance(over, ast.Attribute) and over.attr == "__init__"
                    self.assertTrue(begun or isinstance(over, ast.ClassDef) or called(over) in (node.id, "isinstance"),
                                    f"{name}: {node.lineno}")

    def test_refusals_are_made_on_the_spot(self):
        for name, node in nodes(ast.Raise):
            self.assertIsInstance(node.exc, ast.Call, f"{name}: {node.lineno}")
            self.assertIsNone(node.cause, f"{name}: {node.lineno}")

    def test_nothing_is_tried(self):
        # Narrower than L19, which binds what may stand there; nothing in the package has need of it.
        self.assertEqual([name for name, node in nodes(ast.Try)], [])

    def test_keywords_of_pythons_own(self):
        own = {node.name for _, node in nodes(ast.FunctionDef)}
        for name, node in nodes(ast.Call):
            if called(node) not in own or called(node) in METHODS:
                for word in node.keywords:
                    self.assertIn(word.arg, KEYWORDS.get(called(node), ()), f"{name}: {node.lineno}")

    def test_pythons_own_are_called_and_not_kept(self):
        for name, tree in trees():
            above = parents(tree)
            for node in ast.walk(tree):
                if isinstance(node, ast.Name) and node.id in BUILTINS and node.id[0].islower():
                    over = above[node]
                    known = called(over) == "isinstance" and over.args[1] is node
                    self.assertTrue(known or isinstance(over, ast.keyword) or (
                        isinstance(over, ast.Call) and over.func is node), f"{name}: {node.lineno}")

    def test_is_stands_beside_none_true_and_false(self):
        for name, node in nodes(ast.Compare):
            for sign, right in zip(node.ops, node.comparators):
                if isinstance(sign, (ast.Is, ast.IsNot)):
                    self.assertTrue(isinstance(right, ast.Constant) and right.value in (None, True, False), name)

    def test_an_init_gives_nothing_back(self):
        for name, node in nodes(ast.FunctionDef):
            if node.name == "__init__":
                self.assertFalse([part for part in ast.walk(node) if isinstance(part, ast.Return)], name)

    def test_walked_at_once(self):
        for name, tree in trees():
            above = parents(tree)
            for node in ast.walk(tree):
                if called(node) in ("zip", "enumerate", "reversed", "range", "items", "keys", "values"):
                    over = above[node]
                    walked = isinstance(over, (ast.For, ast.comprehension)) and over.iter is node
                    taken = called(over) in WALKERS and over.args[0] is node
                    joined = called(over) == "join" and isinstance(over.func.value, ast.Constant)
                    self.assertTrue(walked or taken or joined, f"{name}: {node.lineno}")

    def test_sets_are_neither_kept_nor_walked(self):
        for name, tree in trees():
            above = parents(tree)
            for node in ast.walk(tree):
                if isinstance(node, ast.Set) or called(node) in ("set", "frozenset"):
                    over = above[node]
                    asked = isinstance(over, ast.Compare) and (
                        over.left is not node or isinstance(over.ops[0], (ast.Eq, ast.NotEq)))
                    taken = called(over) in ("sorted", "len") and not over.keywords
                    self.assertTrue(asked or taken, f"{name}: {node.lineno}")

    def test_powers_have_a_written_exponent(self):
        for name, node in nodes(ast.BinOp):
            if isinstance(node.op, ast.Pow):
                self.assertIsInstance(node.right, ast.Constant, f"{name}: {node.lineno}")
                self.assertIn(node.right.value, range(65), f"{name}: {node.lineno}")


if __name__ == "__main__":
    unittest.main()
