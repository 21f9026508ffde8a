"""The package keeps to the subset of Python: those rules of LANGUAGE.md that a walk through the code can see."""

import ast
import builtins
import pathlib
import unittest
import warnings

PACKAGE = pathlib.Path(__file__).resolve().parent.parent / "namelessly"

LIBRARY = {
    "heapq": {"heappush", "heappop", "heapify", "heapreplace", "heappushpop"},
    "math": {"gcd", "lcm", "isqrt", "comb", "perm", "factorial"},
    "itertools": {"product", "combinations", "permutations"},
}
BUILTINS = set(
    "len range enumerate zip min max sum abs sorted reversed int str bool bytes list tuple dict set frozenset isinstance "
    "ord repr any all divmod map iter next Exception ValueError TypeError KeyError IndexError LookupError "
    "ZeroDivisionError ArithmeticError OverflowError RuntimeError NotImplementedError AttributeError StopIteration "
    "NotImplemented super property staticmethod classmethod object".split()
)
METHODS = set(
    "append clear copy count endswith extend find get index insert isalnum isalpha isdigit islower isspace isupper items "
    "join keys ljust lower lstrip partition pop remove replace reverse rfind rjust rpartition rsplit rstrip setdefault "
    "split splitlines startswith strip update upper values zfill bit_length title capitalize swapcase casefold center "
    "expandtabs removeprefix removesuffix rindex isascii isdecimal isnumeric istitle isidentifier isprintable translate "
    "add discard".split()
)
DUNDERS = set(
    "__init__ __eq__ __repr__ __str__ __len__ __enter__ __exit__ __call__ __iter__ __contains__ __lt__ __le__ __gt__ "
    "__ge__ __ne__ __bool__".split()
)
BARRED = set(
    "register mro elements open input law version_info with_traceback add_note attrgetter breakpoint builtins compile "
    "copyright credits delattr dir eval exec exit gc getattr globals hasattr help id importlib license locals "
    "methodcaller os quit setattr type vars sys typing format format_map chr".split()
)
STATEMENTS = (
    ast.FunctionDef, ast.ClassDef, ast.Assign, ast.AugAssign, ast.If, ast.While, ast.For, ast.Return, ast.Break,
    ast.Continue, ast.Pass, ast.Raise, ast.Assert, ast.Delete, ast.Expr, ast.Try, ast.ImportFrom,
)
TAKES_A_LIST = {"any", "all", "min", "max", "sum", "sorted"}
AT_ONCE = {"zip", "enumerate", "reversed", "range"}
# A test of examples leaves "_" among the builtins.
PYTHONS_OWN = set(dir(builtins)) - {"_"}


def files():
    return sorted(PACKAGE.glob("*.py"))


def bound_names(tree):
    """Each name that a file binds, with its line: functions, classes, parameters, variables."""
    for node in ast.walk(tree):
        if isinstance(node, (ast.FunctionDef, ast.ClassDef)):
            yield node.name, node.lineno
        elif isinstance(node, ast.arg):
            yield node.arg, node.lineno
        elif isinstance(node, ast.Name) and isinstance(node.ctx, ast.Store):
            yield node.id, node.lineno


def method_names(tree):
    return {part.name for node in ast.walk(tree) if isinstance(node, ast.ClassDef)
            for part in node.body if isinstance(part, ast.FunctionDef)}


def parents_of(tree):
    return {child: node for node in ast.walk(tree) for child in ast.iter_child_nodes(node)}


def called(node):
    return node.func.id if isinstance(node, ast.Call) and isinstance(node.func, ast.Name) else None


class LanguageTest(unittest.TestCase):

    def setUp(self):
        self.trees = {file.name: ast.parse(file.read_text()) for file in files()}
        self.own_methods = set().union(*[method_names(tree) for tree in self.trees.values()])

    def nodes(self, kind):
        for name, tree in self.trees.items():
            for node in ast.walk(tree):
                if isinstance(node, kind):
                    yield f"{name}:{getattr(node, 'lineno', 0)}", node

    def test_files(self):
        found = [part.name for part in PACKAGE.iterdir() if part.name != "__pycache__"]
        self.assertEqual(sorted(found), [file.name for file in files()])
        for name in found:
            self.assertRegex(name, r"^[a-z_][a-z0-9_]*\.py$")

    def test_lines_and_characters(self):
        for file in files():
            text = file.read_text()
            self.assertTrue(all(" " <= c <= "~" or c == "\n" for c in text), file.name)
            self.assertLessEqual(len(text.splitlines()), 399, file.name)
            self.assertLessEqual(max(map(len, text.splitlines())), 120, file.name)

    def test_no_warnings(self):
        with warnings.catch_warnings():
            warnings.simplefilter("error")
            for file in files():
                compile(file.read_text(), file.name, "exec")

    def test_functions_are_small(self):
        for where, node in self.nodes(ast.FunctionDef):
            self.assertLessEqual(node.end_lineno - node.lineno + 1, 40, where)
            self.assertEqual(node.decorator_list, [], where)

    def test_statements(self):
        for where, node in self.nodes(ast.stmt):
            self.assertIsInstance(node, STATEMENTS, where)
            if isinstance(node, ast.Expr):
                self.assertIsInstance(node.value, (ast.Call, ast.Constant), where)
        for where, node in self.nodes((ast.GeneratorExp, ast.Yield, ast.YieldFrom, ast.Await, ast.Lambda, ast.Set)):
            self.fail(f"{where}: {type(node).__name__}")

    def test_module_level(self):
        for name, tree in self.trees.items():
            self.assertTrue(ast.get_docstring(tree), name)
            bound = []
            for node in tree.body[1:]:
                self.assertIsInstance(node, (ast.ImportFrom, ast.FunctionDef, ast.ClassDef, ast.Assign), name)
                if isinstance(node, ast.Assign):
                    self.check_plain(node.value, bound, name)
                    bound.extend(target.id for target in node.targets)
                elif isinstance(node, ast.ImportFrom):
                    bound.extend(alias.name for alias in node.names)
                else:
                    bound.append(node.name)
            self.assertEqual(len(bound), len(set(bound)), name)

    def check_plain(self, node, bound, name):
        """A plain value, or a dict of such and of functions that are defined above."""
        parts = node.values if isinstance(node, ast.Dict) else [node]
        for part in (node.keys if isinstance(node, ast.Dict) else []) + parts:
            if isinstance(part, ast.Name):
                self.assertIn(part.id, bound, name)
            else:
                self.assertIsInstance(ast.literal_eval(part), (int, str, tuple, type(None)), name)

    def test_finally(self):
        for where, node in self.nodes(ast.Try):
            for part in node.finalbody:
                self.assertIsInstance(part, ast.Assign, where)
                self.assertIsInstance(part.value, (ast.Name, ast.Attribute), where)
                self.assertIsInstance(part.targets[0], (ast.Name, ast.Attribute), where)
            for handler in node.handlers:
                self.assertIsInstance(handler.type, ast.Name, where)
                self.assertNotIn(handler.type.id, PYTHONS_OWN, where)

    def test_imports(self):
        defined = {f"namelessly.{name[:-3]}": {part.name for part in tree.body if hasattr(part, "name")}
                   | {part.targets[0].id for part in tree.body if isinstance(part, ast.Assign)}
                   for name, tree in self.trees.items()}
        for where, node in self.nodes((ast.Import, ast.ImportFrom)):
            self.assertIsInstance(node, ast.ImportFrom, where)
            self.assertEqual(node.level, 0, where)
            allowed = LIBRARY.get(node.module) or defined[node.module]
            for alias in node.names:
                self.assertIsNone(alias.asname, where)
                self.assertIn(alias.name, allowed, where)

    def test_no_two_files_import_from_each_other(self):
        asked = {f"namelessly.{name[:-3]}": {node.module for node in tree.body if isinstance(node, ast.ImportFrom)}
                 for name, tree in self.trees.items()}
        done = set()
        while len(done) < len(asked):
            ready = [name for name in asked if name not in done and not (asked[name] & set(asked)) - done]
            self.assertTrue(ready, "a ring of imports")
            done.update(ready)

    def test_names(self):
        for name, tree in self.trees.items():
            imported = {alias.name for node in tree.body if isinstance(node, ast.ImportFrom) for alias in node.names}
            for bound, line in bound_names(tree):
                where = f"{name}:{line} {bound}"
                if bound in DUNDERS:
                    continue
                self.assertRegex(bound, r"^(_|_?[A-Za-z][A-Za-z0-9_]*)$", where)
                self.assertNotIn(bound, PYTHONS_OWN | BARRED | imported, where)

    def test_builtins_and_attributes(self):
        for name, tree in self.trees.items():
            for node in ast.walk(tree):
                if isinstance(node, ast.Name) and node.id in PYTHONS_OWN:
                    self.assertIn(node.id, BUILTINS, f"{name}:{node.lineno}")
                if isinstance(node, ast.Attribute):
                    self.assertNotIn(node.attr, BARRED, f"{name}:{node.lineno}")
                if isinstance(node, ast.Call) and isinstance(node.func, ast.Attribute):
                    self.assertIn(node.func.attr, METHODS | self.own_methods, f"{name}:{node.lineno}")

    def test_double_underscores(self):
        for where, node in self.nodes(ast.FunctionDef):
            if node.name.startswith("__"):
                self.assertIn(node.name, DUNDERS, where)

    def test_lists_where_a_class_has_an_operator(self):
        for where, node in self.nodes(ast.Call):
            if called(node) in TAKES_A_LIST:
                self.assertFalse([part for part in node.args if isinstance(part, ast.GeneratorExp)], where)
            for keyword in node.keywords:
                self.assertNotIn(called(node), {"sum", "any", "all", "list", "tuple", "dict", "set"}, where)

    def test_sets_are_not_iterated_or_passed_on(self):
        for name, tree in self.trees.items():
            above = parents_of(tree)
            for node in ast.walk(tree):
                if called(node) == "set" or isinstance(node, ast.SetComp):
                    place = above[node]
                    fine = isinstance(place, (ast.Compare, ast.Assign)) or called(place) in {"sorted", "len"}
                    self.assertTrue(fine, f"{name}:{node.lineno}")

    def test_views_are_iterated_at_once(self):
        for name, tree in self.trees.items():
            above = parents_of(tree)
            for node in ast.walk(tree):
                view = (isinstance(node, ast.Call) and isinstance(node.func, ast.Attribute)
                        and node.func.attr in {"items", "keys", "values"})
                if view or called(node) in AT_ONCE:
                    place = above[node]
                    fine = isinstance(place, (ast.For, ast.comprehension)) or called(place) in {
                        "list", "tuple", "dict", "sorted", "sum", "enumerate", "zip", "reversed"}
                    self.assertTrue(fine, f"{name}:{node.lineno}")

    def test_plain_values(self):
        for where, node in self.nodes(ast.Constant):
            self.assertNotIsInstance(node.value, (float, complex), where)
            if isinstance(node.value, str):
                self.assertNotIn("%", node.value, where)
        for where, node in self.nodes((ast.Div, ast.MatMult)):
            self.fail(f"{where}: no such sign")
        for where, node in self.nodes(ast.BinOp):
            if isinstance(node.op, ast.Pow):
                self.assertIsInstance(node.right, ast.Constant, where)
        for where, node in self.nodes(ast.Compare):
            for sign, side in zip(node.ops, node.comparators):
                if isinstance(sign, (ast.Is, ast.IsNot)):
                    self.assertIsInstance(side, ast.Constant, where)

    def test_errors_are_made_on_the_spot(self):
        for where, node in self.nodes(ast.Raise):
            self.assertIsInstance(node.exc, ast.Call, where)
            self.assertIsInstance(node.exc.func, ast.Name, where)

    def test_no_method_is_an_attribute(self):
        for where, node in self.nodes(ast.ClassDef):
            methods = {part.name for part in node.body if isinstance(part, ast.FunctionDef)}
            stored = {part.attr for part in ast.walk(node)
                      if isinstance(part, ast.Attribute) and isinstance(part.ctx, ast.Store)}
            self.assertFalse(methods & stored, where)
            self.assertFalse(stored & set(dir(list) + dir(dict) + dir(str) + dir(int) + ["args"]), where)


if __name__ == "__main__":
    unittest.main()
