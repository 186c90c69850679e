"""What of the rules of the language a plain test can see, by the numbers of the rules."""

import ast
import os
import unittest

PACKAGE = os.path.join(os.path.dirname(os.path.dirname(os.path.abspath(__file__))), "datedlines")

LIBRARY = {
    "heapq": "heappush heappop heapify heapreplace heappushpop".split(),
    "math": "gcd lcm isqrt comb perm factorial".split(),
    "itertools": "product combinations permutations chain accumulate pairwise islice zip_longest".split(),
    "collections": ["defaultdict"],
}
BUILTINS = """len range enumerate zip min max sum abs sorted reversed int str bool list tuple dict set isinstance ord repr
any all divmod pow map Exception ValueError TypeError KeyError IndexError LookupError ZeroDivisionError""".split()
METHODS = """append clear copy count endswith extend find get index insert isalnum isalpha isdigit islower isspace
isupper items join keys ljust lower lstrip partition pop remove replace reverse rfind rjust rpartition rsplit rstrip
setdefault split splitlines startswith strip update upper values zfill bit_length add discard""".split()
VIEWS = "range zip enumerate reversed items keys values".split()
BARRED_NODES = (ast.Import, ast.Global, ast.AsyncFunctionDef, ast.AsyncFor, ast.AsyncWith, ast.Await, ast.Div,
                ast.MatMult, ast.Yield, ast.YieldFrom, ast.GeneratorExp, ast.Set, ast.AnnAssign)
BARRED_WORDS = """type typing enum Enum Generic Protocol ABC namedtuple NamedTuple TypedDict dataclass overload
contextmanager register mro elements open input law eval exec globals locals vars dir id hash chr bytes print""".split()


def files():
    return sorted(name for name in os.listdir(PACKAGE) if name != "__pycache__")


def text_of(name):
    with open(os.path.join(PACKAGE, name), encoding="utf-8", newline="") as source:
        return source.read()


def trees_of_all():
    return [(name, ast.parse(text_of(name))) for name in files()]


def nodes():
    """All pairs (file, node) of the package."""
    return [(name, node) for name, tree in trees_of_all() for node in ast.walk(tree)]


def docstrings(tree):
    kinds = (ast.Module, ast.ClassDef, ast.FunctionDef)
    owners = [node for node in ast.walk(tree) if isinstance(node, kinds)]
    return [node.body[0].value for node in owners if ast.get_docstring(node) is not None]


def top_names(tree):
    """The names that are bound at module level, once for each binding."""
    found = []
    for part in tree.body:
        if isinstance(part, (ast.FunctionDef, ast.ClassDef)):
            found.append(part.name)
        elif isinstance(part, ast.ImportFrom):
            found.extend([alias.asname or alias.name for alias in part.names])
        elif isinstance(part, ast.Assign):
            found.extend([target.id for target in part.targets])
    return found


def methods_of(node):
    """The methods that stand in the body of a class."""
    return [part for part in node.body if isinstance(part, ast.FunctionDef)]


def called(node):
    """The name of the function or method that is called."""
    return node.func.id if isinstance(node.func, ast.Name) else getattr(node.func, "attr", None)


def bound_in(function):
    """The parameters and local variables of a function."""
    found = [argument.arg for argument in ast.walk(function) if isinstance(argument, ast.arg)]
    for node in ast.walk(function):
        if isinstance(node, ast.Name) and isinstance(node.ctx, ast.Store):
            found.append(node.id)
    return found


class LanguageTest(unittest.TestCase):
    def test_files(self):
        self.assertIn("__init__.py", files())
        self.assertLessEqual(len(files()), 100)
        for name in files():
            self.assertRegex(name, r"\A(__init__|[a-z][a-z0-9_]*)\.py\Z")

    def test_sizes(self):
        for name in files():
            rows = text_of(name).split("\n")
            self.assertLessEqual(len(rows), 399, name)
            for row in rows:
                self.assertLessEqual(len(row), 120, name)
        for name, node in nodes():
            if isinstance(node, ast.FunctionDef):
                self.assertLessEqual(node.end_lineno - node.lineno + 1, 40, node.name)

    def test_characters(self):
        for name in files():
            self.assertEqual([c for c in text_of(name) if c != "\n" and not " " <= c <= "~"], [], name)

    def test_imports(self):
        for name, node in nodes():
            if isinstance(node, ast.ImportFrom):
                self.assertEqual(node.level, 0, name)
                imported = [alias.name for alias in node.names]
                self.assertEqual([alias.asname for alias in node.names], [None] * len(imported))
                if node.module in LIBRARY:
                    self.assertLessEqual(set(imported), set(LIBRARY[node.module]), name)
                else:
                    self.assert_own_import(node.module, imported)

    def assert_own_import(self, module, imported):
        package, file = module.split(".")
        self.assertEqual(package, "datedlines")
        body = ast.parse(text_of(file + ".py")).body
        own = [part.name for part in body if isinstance(part, (ast.FunctionDef, ast.ClassDef))]
        own += [target.id for part in body if isinstance(part, ast.Assign) for target in part.targets]
        self.assertLessEqual(set(imported), set(own), module)

    def test_imports_stand_at_the_top(self):
        for name, tree in trees_of_all():
            kinds = [isinstance(part, ast.ImportFrom) for part in tree.body[1:]]
            self.assertEqual(kinds, sorted(kinds, reverse=True), name)

    def test_no_two_files_import_from_each_other(self):
        after = {}
        for name, tree in trees_of_all():
            modules = [part.module for part in tree.body if isinstance(part, ast.ImportFrom)]
            after[name] = [module.split(".")[1] + ".py" for module in modules if module not in LIBRARY]
        while after:
            free = [name for name in after if not [other for other in after[name] if other in after]]
            self.assertNotEqual(free, [], sorted(after))
            after = {name: after[name] for name in after if name not in free}

    def test_module_level(self):
        for name, tree in trees_of_all():
            names = top_names(tree)
            self.assertEqual(sorted(names), sorted(set(names)), name)
            for part in tree.body[1:]:
                kinds = (ast.ImportFrom, ast.FunctionDef, ast.ClassDef, ast.Assign)
                self.assertIsInstance(part, kinds, name)
                if isinstance(part, ast.Assign):
                    ast.literal_eval(part.value)

    def test_barred_nodes(self):
        for name, node in nodes():
            self.assertNotIsInstance(node, BARRED_NODES, name)
            if isinstance(node, (ast.FunctionDef, ast.ClassDef)):
                self.assertEqual(node.decorator_list, [], name)
            if isinstance(node, ast.Constant):
                self.assertNotIsInstance(node.value, (float, complex, bytes), name)

    def test_is_stands_beside_none_true_and_false(self):
        for name, node in nodes():
            if isinstance(node, ast.Compare):
                for sign, right in zip(node.ops, node.comparators):
                    if isinstance(sign, (ast.Is, ast.IsNot)):
                        self.assertIsInstance(right, ast.Constant, name)
                        self.assertIn(right.value, (None, True, False), name)

    def test_exponents_are_literal(self):
        for name, node in nodes():
            if isinstance(node, ast.BinOp) and isinstance(node.op, ast.Pow):
                self.assertIsInstance(node.right, ast.Constant, name)

    def test_methods_and_builtins(self):
        classes = [node for _, node in nodes() if isinstance(node, ast.ClassDef)]
        methods = METHODS + [part.name for node in classes for part in methods_of(node)]
        for name, tree in trees_of_all():
            own = top_names(tree)
            for node in ast.walk(tree):
                if isinstance(node, ast.Call) and isinstance(node.func, ast.Attribute):
                    self.assertIn(node.func.attr, methods, name)
                if isinstance(node, ast.Call) and isinstance(node.func, ast.Name):
                    self.assertIn(node.func.id, own + BUILTINS, name)

    def test_ranges_and_views_are_iterated_at_once(self):
        takers = "list tuple dict sorted sum any all enumerate zip min max len reversed product combinations".split()
        for name, tree in trees_of_all():
            fine = []
            for node in ast.walk(tree):
                if isinstance(node, (ast.For, ast.comprehension)):
                    fine.append(node.iter)
                if isinstance(node, ast.Call) and isinstance(node.func, ast.Name) and node.func.id in takers:
                    fine.extend(node.args)
                if isinstance(node, ast.Compare):
                    fine.extend(node.comparators)
            for node in ast.walk(tree):
                if isinstance(node, ast.Call) and called(node) in VIEWS:
                    self.assertIn(node, fine, (name, node.lineno))

    def test_sets_stand_in_sorted_and_len(self):
        for name, tree in trees_of_all():
            fine = []
            for node in ast.walk(tree):
                if isinstance(node, ast.Call) and called(node) in ("sorted", "len") and node.keywords == []:
                    fine.extend(node.args)
                if isinstance(node, ast.Compare):
                    fine.extend(node.comparators)
            for node in ast.walk(tree):
                if isinstance(node, ast.SetComp) or isinstance(node, ast.Call) and called(node) == "set":
                    self.assertIn(node, fine, (name, node.lineno))

    def test_combinations_are_of_plain_numbers(self):
        for name, tree in trees_of_all():
            for function in [node for node in ast.walk(tree) if isinstance(node, ast.FunctionDef)]:
                plain = [argument.arg for argument in function.args.args]
                for node in ast.walk(function):
                    if isinstance(node, ast.Assign) and isinstance(node.value, ast.Call):
                        if called(node.value) in ("len", "int") and isinstance(node.targets[0], ast.Name):
                            plain.append(node.targets[0].id)
                for node in ast.walk(function):
                    if isinstance(node, ast.Call) and called(node) in ("combinations", "permutations"):
                        for many in node.args[1:]:
                            is_plain = isinstance(many, ast.Constant) or isinstance(many, ast.Name) and many.id in plain
                            self.assertTrue(is_plain, (name, node.lineno))

    def test_local_names(self):
        for name, tree in trees_of_all():
            imports_and_classes = []
            for part in tree.body:
                if isinstance(part, ast.ImportFrom):
                    imports_and_classes.extend([alias.name for alias in part.names])
                if isinstance(part, ast.ClassDef):
                    imports_and_classes.append(part.name)
            barred = imports_and_classes + BUILTINS + BARRED_WORDS + ["next", "iter", "map", "filter", "round", "slice"]
            for node in ast.walk(tree):
                if isinstance(node, ast.FunctionDef):
                    self.assertEqual([x for x in bound_in(node) if x in barred], [], (name, node.name))
                    self.assertNotIn(node.name, BUILTINS + BARRED_WORDS)

    def test_strings(self):
        for name, tree in trees_of_all():
            told = docstrings(tree)
            for node in ast.walk(tree):
                if isinstance(node, ast.Constant) and isinstance(node.value, str):
                    self.assertNotIn("%", node.value, name)
                    if node not in told:
                        self.assertEqual([word for word in BARRED_WORDS if word == node.value], [], name)

    def test_classes(self):
        allowed = ["__init__", "__eq__", "__repr__", "__str__", "__len__"]
        for name, node in nodes():
            if isinstance(node, ast.ClassDef):
                own = [part.name for part in methods_of(node)]
                self.assertEqual(len(set(own)), len(own), node.name)
                self.assertEqual([word for word in own if word.startswith("__") and word not in allowed], [], name)
                attributes = [part.attr for part in ast.walk(node)
                              if isinstance(part, ast.Attribute) and isinstance(part.ctx, ast.Store)]
                self.assertEqual([word for word in attributes if word in own], [], name)


if __name__ == "__main__":
    unittest.main()
