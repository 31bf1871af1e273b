"""The rules of the language that can be seen in the text of the package, as far as the package comes near to them."""

import ast
import builtins
import pathlib
import unittest

PACKAGE = pathlib.Path(__file__).resolve().parent.parent / "ringwalkers"

LIBRARY = {
    "heapq": ["heappush", "heappop", "heapify", "heapreplace", "heappushpop"],
    "math": ["gcd", "lcm", "isqrt", "comb", "perm", "factorial"],
    "itertools": ["product", "combinations", "permutations"],
}
BUILTINS = """len range enumerate zip min max sum abs sorted reversed int str bool bytes list tuple dict set frozenset
    isinstance ord repr any all divmod Exception ValueError TypeError KeyError IndexError LookupError ZeroDivisionError
    ArithmeticError OverflowError RuntimeError NotImplementedError NotImplemented super""".split()
METHODS = """append clear copy count endswith extend find get index insert isalnum isalpha isdigit islower isspace
    isupper items join keys ljust lower lstrip partition pop remove replace reverse rfind rjust rpartition rsplit
    rstrip setdefault split splitlines startswith strip update upper values zfill bit_length""".split()
BARRED = """register mro elements open input law version_info with_traceback add_note attrgetter breakpoint builtins
    compile copyright credits delattr dir eval exec exit gc getattr globals hasattr help id importlib license locals
    methodcaller os quit setattr type vars sys""".split()
AT_ONCE = ["zip", "enumerate", "reversed", "range"]
TAKERS = ["list", "tuple", "dict", "sorted", "sum", "any", "all", "enumerate", "zip", "min", "max"]
NO_NODES = (ast.GeneratorExp, ast.Global, ast.AsyncFunctionDef, ast.Await, ast.Yield, ast.YieldFrom, ast.Div,
            ast.With, ast.Set, ast.Delete, ast.Starred, ast.NamedExpr, ast.Nonlocal, ast.JoinedStr, ast.Match)


def texts():
    return {path.stem: path.read_text(encoding="utf-8") for path in sorted(PACKAGE.glob("*.py"))}


def trees():
    return {name: ast.parse(text) for name, text in texts().items()}


def functions_of(tree):
    return [node for node in ast.walk(tree) if isinstance(node, ast.FunctionDef)]


def bound_in(node):
    """The names that parameters, assignments, loops and comprehensions bind within a node."""
    names = [each.arg for each in ast.walk(node) if isinstance(each, ast.arg)]
    stored = [each for each in ast.walk(node) if isinstance(each, ast.Name) and isinstance(each.ctx, ast.Store)]
    return names + [each.id for each in stored]


def imported(tree):
    return [(node.module, each.name) for node in tree.body if isinstance(node, ast.ImportFrom) for each in node.names]


def parents(tree):
    return {child: node for node in ast.walk(tree) for child in ast.iter_child_nodes(node)}


class Files(unittest.TestCase):
    def test_files_and_signs(self):
        for path in PACKAGE.iterdir():
            self.assertTrue(path.name == "__pycache__" or path.suffix == ".py", path.name)
        for name, text in texts().items():
            self.assertEqual(name, name.lower())
            self.assertNotIn(name, vars(builtins))
            self.assertTrue(text.endswith("\n"))
            self.assertTrue(all(" " <= sign <= "~" or sign == "\n" for sign in text), name)

    def test_sizes(self):
        for name, text in texts().items():
            lines = text.split("\n")
            self.assertLessEqual(len(lines), 399, name)
            self.assertLessEqual(max(len(line) for line in lines), 120, name)
            for function in functions_of(ast.parse(text)):
                self.assertLessEqual(function.end_lineno - function.lineno + 1, 40, function.name)


class Imports(unittest.TestCase):
    def test_what_is_imported(self):
        known = trees()
        for name, tree in known.items():
            for node in ast.walk(tree):
                self.assertNotIsInstance(node, ast.Import, name)
                if isinstance(node, ast.ImportFrom):
                    self.assertIn(node, tree.body)
                    self.assertEqual(node.level, 0)
                    self.assertTrue(all(each.asname is None for each in node.names))
            for module, wanted in imported(tree):
                if module in LIBRARY:
                    self.assertIn(wanted, LIBRARY[module])
                else:
                    package, file = module.split(".")
                    self.assertEqual(package, "ringwalkers")
                    defined = [node for node in known[file].body if isinstance(node, (ast.FunctionDef, ast.ClassDef))]
                    self.assertIn(wanted, [node.name for node in defined], name)

    def test_no_two_import_from_each_other(self):
        wanted = {name: [module.split(".")[1] for module, _ in imported(tree) if module not in LIBRARY]
                  for name, tree in trees().items()}
        reached = {name: set(files) for name, files in wanted.items()}
        for _ in reached:
            for name in reached:
                for file in list(reached[name]):
                    reached[name] |= reached[file]
        for name in reached:
            self.assertNotIn(name, reached[name])

    def test_all_that_is_imported_is_used(self):
        for name, tree in trees().items():
            read = [node.id for node in ast.walk(tree) if isinstance(node, ast.Name)]
            for _, wanted in imported(tree):
                self.assertIn(wanted, read, name)


class Statements(unittest.TestCase):
    def test_module_level(self):
        for name, tree in trees().items():
            for place, node in enumerate(tree.body):
                if isinstance(node, ast.Expr):
                    self.assertEqual(place, 0, name)
                    self.assertIsInstance(node.value.value, str)
                elif isinstance(node, ast.Assign):
                    ast.literal_eval(node.value)
                    self.assertIsInstance(node.targets[0], ast.Name)
                else:
                    self.assertIsInstance(node, (ast.ImportFrom, ast.FunctionDef, ast.ClassDef))

    def test_what_is_not_used(self):
        for name, tree in trees().items():
            for node in ast.walk(tree):
                self.assertNotIsInstance(node, NO_NODES, name)
                if isinstance(node, (ast.FunctionDef, ast.ClassDef)):
                    self.assertEqual(node.decorator_list, [])
                if isinstance(node, ast.Constant):
                    self.assertNotIsInstance(node.value, (float, complex))
                    if isinstance(node.value, str):
                        self.assertNotIn("%", node.value)
                if isinstance(node, ast.Compare):
                    for sign, side in zip(node.ops, node.comparators):
                        if isinstance(sign, (ast.Is, ast.IsNot)):
                            self.assertIsInstance(side, ast.Constant)

    def test_nothing_is_caught(self):
        for name, tree in trees().items():
            for node in ast.walk(tree):
                if isinstance(node, ast.Try):
                    self.assertEqual(node.handlers + node.orelse, [], name)
                    for each in node.finalbody:
                        self.assertIsInstance(each, ast.Assign)
                        self.assertIsInstance(each.targets[0], ast.Attribute)
                        self.assertIsInstance(each.value, ast.Name)

    def test_powers(self):
        for tree in trees().values():
            for node in ast.walk(tree):
                if isinstance(node, ast.BinOp) and isinstance(node.op, ast.Pow):
                    self.assertIsInstance(node.right, ast.Constant)

    def test_sets_are_counted_or_looked_into_at_once(self):
        for name, tree in trees().items():
            above = parents(tree)
            for node in ast.walk(tree):
                is_call = isinstance(node, ast.Call) and isinstance(node.func, ast.Name) and node.func.id == "set"
                if is_call or isinstance(node, ast.SetComp):
                    holder = above[node]
                    counted = isinstance(holder, ast.Call) and getattr(holder.func, "id", None) in ("len", "sorted")
                    self.assertTrue(counted or isinstance(holder, ast.Compare), name)

    def test_what_is_iterated_at_once(self):
        for name, tree in trees().items():
            above = parents(tree)
            for node in ast.walk(tree):
                if not isinstance(node, ast.Call):
                    continue
                by_name = isinstance(node.func, ast.Name) and node.func.id in AT_ONCE
                by_method = isinstance(node.func, ast.Attribute) and node.func.attr in ("items", "keys", "values")
                if by_name or by_method:
                    holder = above[node]
                    taken = isinstance(holder, ast.Call) and getattr(holder.func, "id", None) in TAKERS
                    looped = isinstance(holder, (ast.For, ast.comprehension)) and holder.iter is node
                    self.assertTrue(taken or looped, (name, node.lineno))


class Names(unittest.TestCase):
    def test_builtins(self):
        for name, tree in trees().items():
            own = [node.name for node in ast.walk(tree) if isinstance(node, (ast.FunctionDef, ast.ClassDef))]
            own += bound_in(tree) + [wanted for _, wanted in imported(tree)]
            for node in ast.walk(tree):
                if isinstance(node, ast.Name) and node.id not in own:
                    self.assertIn(node.id, BUILTINS, name)
            for each in own:
                self.assertNotIn(each, vars(builtins), name)
                self.assertNotIn(each, BARRED, name)

    def test_plain_names(self):
        for name, tree in trees().items():
            for each in bound_in(tree) + [node.name for node in functions_of(tree)]:
                self.assertTrue(each.isascii())
                if each.startswith("__"):
                    self.assertIn(each, ("__init__", "__eq__"), name)
                elif each.startswith("_") and each != "_":
                    self.assertTrue(each[1].isalpha(), name)

    def test_nothing_is_called_as_an_import_or_a_class(self):
        for name, tree in trees().items():
            kept = [wanted for _, wanted in imported(tree)]
            kept += [node.name for node in tree.body if isinstance(node, ast.ClassDef)]
            for function in functions_of(tree):
                for each in bound_in(function):
                    self.assertNotIn(each, kept, (name, function.name))

    def test_names_bound_once_at_module_level(self):
        for name, tree in trees().items():
            bound = [wanted for _, wanted in imported(tree)]
            bound += [node.name for node in tree.body if isinstance(node, (ast.FunctionDef, ast.ClassDef))]
            bound += [node.targets[0].id for node in tree.body if isinstance(node, ast.Assign)]
            self.assertEqual(len(bound), len(set(bound)), name)

    def test_methods(self):
        own = [node.name for tree in trees().values() for cls in ast.walk(tree) if isinstance(cls, ast.ClassDef)
               for node in cls.body if isinstance(node, ast.FunctionDef)]
        for name, tree in trees().items():
            for node in ast.walk(tree):
                if isinstance(node, ast.Call) and isinstance(node.func, ast.Attribute):
                    self.assertIn(node.func.attr, METHODS + own, name)


if __name__ == "__main__":
    unittest.main()
