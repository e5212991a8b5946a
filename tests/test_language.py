"""Checks that the package keeps to the rules of its language that can be read off the code."""

import ast
import builtins
import os
import re
import unittest

ROOT = os.path.dirname(os.path.dirname(os.path.abspath(__file__)))
PACKAGE = os.path.join(ROOT, "affinewalk")

BUILTINS = set("""
    len range enumerate zip min max sum abs sorted reversed int str bool bytes list tuple dict set frozenset isinstance
    ord repr any all divmod pow Exception ValueError TypeError KeyError IndexError LookupError ZeroDivisionError
    ArithmeticError OverflowError RuntimeError NotImplementedError AttributeError StopIteration NotImplemented map
    """.split())
LIBRARY = {
    "math": {"gcd", "lcm", "isqrt", "comb", "perm", "factorial"},
    "heapq": {"heappush", "heappop", "heapify", "heapreplace", "heappushpop"},
    "itertools": {"product", "combinations", "permutations"},
}
METHODS = set("""
    append clear copy count endswith extend find get index insert isalnum isalpha isdigit islower isspace isupper items
    join keys ljust lower lstrip partition pop remove replace reverse rfind rjust rpartition rsplit rstrip setdefault
    split splitlines startswith strip update upper values zfill bit_length add discard
    """.split())
DOUBLE = {"__init__", "__eq__", "__repr__", "__str__", "__len__"}
BARRED_WORDS = set("""
    type typing typing_extensions enum Enum IntEnum StrEnum Flag IntFlag Generic Protocol ABC ABCMeta namedtuple
    NamedTuple TypedDict TYPE_CHECKING abstractmethod
    """.split())
BARRED_NAMES = set("""
    mro elements open input law version_info with_traceback add_note register attrgetter breakpoint compile copyright
    credits delattr dir eval exec exit gc getattr globals hasattr help id importlib license locals methodcaller os quit
    setattr super vars sys
    """.split())
# The rules allow some of these under conditions. Who needs one adds the check of its conditions.
BARRED_NODES = (
    ast.AsyncFunctionDef, ast.AsyncFor, ast.AsyncWith, ast.Await, ast.Global, ast.Div, ast.MatMult, ast.With,
    ast.Match, ast.Yield, ast.YieldFrom, ast.NamedExpr, ast.Import, ast.AnnAssign, ast.GeneratorExp, ast.Set, ast.SetComp,
)


def read_files():
    texts = {}
    for name in sorted(os.listdir(PACKAGE)):
        if name != "__pycache__":
            with open(os.path.join(PACKAGE, name), encoding="utf-8", newline="") as file:
                texts[name] = file.read()
    return texts


def docstrings(tree):
    found = []
    for node in ast.walk(tree):
        if isinstance(node, (ast.Module, ast.ClassDef, ast.FunctionDef)) and ast.get_docstring(node) is not None:
            found.append(node.body[0].value)
    return found


def bound_names(node):
    """The names that a function assigns: parameters, targets, loop variables."""
    names = [argument.arg for argument in ast.walk(node) if isinstance(argument, ast.arg)]
    return names + [n.id for n in ast.walk(node) if isinstance(n, ast.Name) and isinstance(n.ctx, ast.Store)]


class LanguageTest(unittest.TestCase):
    def setUp(self):
        self.texts = read_files()
        self.trees = {name: ast.parse(text) for name, text in self.texts.items()}

    def nodes(self, *kinds):
        return [(name, node) for name, tree in self.trees.items() for node in ast.walk(tree) if isinstance(node, kinds)]

    def test_files(self):
        self.assertIn("__init__.py", self.texts)
        for name, text in self.texts.items():
            self.assertRegex(name, r"^[a-z_][a-z0-9_]*\.py$")
            self.assertRegex(text, r"\A[ -~\n]*\n\Z", name)
            self.assertLess(len(text.split("\n")), 400, name)
            for line in text.split("\n"):
                self.assertLessEqual(len(line), 120, name)
                self.assertEqual(line, line.rstrip(), name)

    def test_size_of_functions(self):
        for name, node in self.nodes(ast.FunctionDef):
            self.assertLessEqual(node.end_lineno - node.lineno + 1, 40, (name, node.name))
            self.assertEqual(node.decorator_list, [], (name, node.name))

    def test_module_level(self):
        for name, tree in self.trees.items():
            for node in tree.body:
                if isinstance(node, ast.Assign):
                    self.assertEqual([type(target) for target in node.targets], [ast.Name], name)
                    ast.literal_eval(node.value)
                elif isinstance(node, ast.Expr):
                    self.assertIs(node, tree.body[0], name)
                else:
                    self.assertIsInstance(node, (ast.ImportFrom, ast.FunctionDef, ast.ClassDef), name)

    def test_statements_and_expressions(self):
        for name, node in self.nodes(*BARRED_NODES):
            self.fail((name, node.lineno, type(node).__name__))
        for name, node in self.nodes(ast.Constant):
            self.assertIsInstance(node.value, (int, str, bool, type(None)), (name, node.lineno))

    def test_only_own_errors_are_caught(self):
        own = {node.name for node in self.trees["errors.py"].body if isinstance(node, ast.ClassDef)}
        for name, node in self.nodes(ast.Try):
            self.assertEqual(node.finalbody, [], name)
        for name, node in self.nodes(ast.ExceptHandler):
            caught = node.type.elts if isinstance(node.type, ast.Tuple) else [node.type]
            self.assertLessEqual({error.id for error in caught}, own, (name, node.lineno))

    def test_sets_are_not_stored(self):
        for name, tree in self.trees.items():
            above = {inner: node for node in ast.walk(tree) for inner in ast.iter_child_nodes(node)}
            for node in ast.walk(tree):
                if isinstance(node, ast.Call) and isinstance(node.func, ast.Name) and node.func.id == "set":
                    outer = above[node]
                    self.assertIsInstance(outer, ast.Call, (name, node.lineno))
                    self.assertIn(outer.func.id, ("len", "sorted"), (name, node.lineno))

    def test_loops_do_not_change_what_they_go_over(self):
        changes = {"append", "clear", "extend", "insert", "pop", "remove", "reverse", "setdefault", "update"}
        for name, loop in self.nodes(ast.For):
            over = {ast.dump(node) for node in ast.walk(loop.iter) if isinstance(node, (ast.Name, ast.Attribute))}
            for node in ast.walk(loop):
                if isinstance(node, ast.Call) and isinstance(node.func, ast.Attribute) and node.func.attr in changes:
                    self.assertNotIn(ast.dump(node.func.value), over, (name, node.lineno))

    def test_methods_of_the_interface_stand_in_their_class(self):
        listed = {"networks.py": ("Network", "modulus watch nodes edges edge"),
                  "sessions.py": ("Session", "take jump remove undo redo actions network state reach exclusion count_reachable")}
        for name, (title, methods) in listed.items():
            for node in self.trees[name].body:
                if isinstance(node, ast.ClassDef) and node.name == title:
                    found = {method.name for method in node.body if isinstance(method, ast.FunctionDef)}
                    self.assertLessEqual(set(methods.split()) | {"__init__", "__eq__"}, found)

    def test_attributes_and_methods_have_different_names(self):
        methods = {method.name for _, node in self.nodes(ast.ClassDef) for method in node.body if isinstance(method, ast.FunctionDef)}
        for name, node in self.nodes(ast.Attribute):
            if isinstance(node.ctx, ast.Store):
                self.assertNotIn(node.attr, methods, (name, node.lineno))

    def test_imports(self):
        defined = {name: {n.name for n in tree.body if isinstance(n, (ast.FunctionDef, ast.ClassDef))}
                   | {n.targets[0].id for n in tree.body if isinstance(n, ast.Assign)} for name, tree in self.trees.items()}
        for name, node in self.nodes(ast.ImportFrom):
            self.assertEqual(node.level, 0)
            for alias in node.names:
                self.assertIsNone(alias.asname, name)
                if node.module in LIBRARY:
                    self.assertIn(alias.name, LIBRARY[node.module], name)
                else:
                    package, file = node.module.split(".")
                    self.assertEqual(package, "affinewalk")
                    self.assertIn(alias.name, defined[file + ".py"], name)

    def test_no_circle_of_imports(self):
        left = {name: [node.module.split(".")[1] + ".py" for node in ast.walk(tree)
                       if isinstance(node, ast.ImportFrom) and "." in node.module] for name, tree in self.trees.items()}
        while left:
            free = [name for name in left if not any(other in left for other in left[name])]
            self.assertNotEqual(free, [], left)
            for name in free:
                del left[name]

    def test_builtins(self):
        for name, node in self.nodes(ast.Name):
            if hasattr(builtins, node.id):
                self.assertIn(node.id, BUILTINS, (name, node.lineno))

    def test_methods(self):
        own = {node.name for _, node in self.nodes(ast.FunctionDef)}
        for name, node in self.nodes(ast.Call):
            if isinstance(node.func, ast.Attribute):
                self.assertIn(node.func.attr, METHODS | own, (name, node.lineno))
        for name, node in self.nodes(ast.ClassDef):
            for method in node.body:
                if isinstance(method, ast.FunctionDef) and method.name.startswith("__"):
                    self.assertIn(method.name, DOUBLE, name)

    def test_own_names(self):
        for name, tree in self.trees.items():
            imported = {alias.name for node in ast.walk(tree) if isinstance(node, ast.ImportFrom) for alias in node.names}
            classes = {node.name for node in tree.body if isinstance(node, ast.ClassDef)}
            top = [n.name for n in tree.body if isinstance(n, (ast.FunctionDef, ast.ClassDef))]
            top += [n.targets[0].id for n in tree.body if isinstance(n, ast.Assign)] + sorted(imported)
            self.assertEqual(len(top), len(set(top)), name)
            for node in ast.walk(tree):
                if isinstance(node, ast.FunctionDef):
                    for word in bound_names(node) + [node.name]:
                        self.assertFalse(word != "_" and word in dir(builtins), (name, word))
                        self.assertNotIn(word, BARRED_NAMES | BARRED_WORDS, name)
                        self.assertRegex(word, r"^(_?[A-Za-z][A-Za-z0-9_]*|_|__[a-z]+__)$", name)
                    for word in bound_names(node):
                        self.assertNotIn(word, imported | classes, (name, node.name))

    def test_stars_in_calls_stand_before_names(self):
        for name, node in self.nodes(ast.Call):
            for argument in node.args:
                if isinstance(argument, ast.Starred):
                    self.assertIsInstance(argument.value, ast.Name, (name, node.lineno))
            for keyword in node.keywords:
                self.assertIsNotNone(keyword.arg, (name, node.lineno))

    def test_underscore_is_not_read(self):
        for name, node in self.nodes(ast.Name):
            self.assertFalse(node.id == "_" and isinstance(node.ctx, ast.Load), (name, node.lineno))

    def test_strings(self):
        for name, tree in self.trees.items():
            texts = docstrings(tree)
            for node in ast.walk(tree):
                if isinstance(node, ast.Constant) and isinstance(node.value, str) and node not in texts:
                    self.assertNotIn("%", node.value, name)
                    self.assertNotIn("__", node.value, name)
                    self.assertFalse(BARRED_WORDS & set(re.findall(r"\w+", node.value)), name)

    def test_is_only_with_none_true_and_false(self):
        for name, node in self.nodes(ast.Compare):
            for sign, right in zip(node.ops, node.comparators):
                if isinstance(sign, (ast.Is, ast.IsNot)):
                    self.assertIsInstance(right, ast.Constant, (name, node.lineno))
                    self.assertIn(right.value, (None, True, False), (name, node.lineno))

    def test_exponents(self):
        for name, node in self.nodes(ast.BinOp):
            if isinstance(node.op, ast.Pow):
                self.assertIsInstance(node.right, ast.Constant, (name, node.lineno))
                self.assertTrue(0 <= node.right.value <= 64, (name, node.lineno))

    def test_error_classes_stand_in_their_file(self):
        for name, node in self.nodes(ast.ClassDef):
            below_built_in = [base.id for base in node.bases if hasattr(builtins, base.id)]
            self.assertEqual(bool(below_built_in), name == "errors.py", node.name)


if __name__ == "__main__":
    unittest.main()
