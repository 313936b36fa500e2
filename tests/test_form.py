"""The form of the code: what can be seen, line by line, of the rules of the language."""

import ast
import builtins
import os
import unittest

PACKAGE = os.path.join(os.path.dirname(os.path.dirname(os.path.abspath(__file__))), "ballmoves")

BUILTINS = set("""len range enumerate zip min max sum abs sorted reversed int str bool list tuple dict set isinstance ord
repr any all divmod map iter next ValueError LookupError KeyError IndexError Exception TypeError type""".split())
LIBRARY = {"math": {"gcd", "lcm", "isqrt", "comb", "perm", "factorial"}, "heapq": {"heappush", "heappop", "heapify"},
           "itertools": {"product", "combinations", "permutations", "chain"}, "collections": {"deque", "defaultdict"}}
METHODS = set("""append clear copy count endswith extend find get index insert isalnum isalpha isdigit islower isspace
isupper items join keys ljust lower lstrip partition pop remove replace reverse rfind rjust rpartition rsplit rstrip
setdefault split splitlines startswith strip update upper values zfill bit_length add discard popleft""".split())
BARRED = set("""mro elements open input law version_info with_traceback add_note register eval exec compile globals locals
vars help exit dir id super getattr setattr hasattr""".split())
STATEMENTS = (ast.Global, ast.AsyncFunctionDef, ast.AsyncFor, ast.AsyncWith, ast.Import)


def files():
    for name in sorted(os.listdir(PACKAGE)):
        if name != "__pycache__":
            with open(os.path.join(PACKAGE, name), "rb") as file:
                yield name, file.read().decode("ascii")


def trees():
    for name, text in files():
        yield name, ast.parse(text)


def functions_of(tree):
    return [node for node in ast.walk(tree) if isinstance(node, ast.FunctionDef)]


def bound_names(function):
    """The parameters and local variables of a function."""
    names = set()
    for node in ast.walk(function):
        if isinstance(node, ast.arg):
            names.add(node.arg)
        elif isinstance(node, ast.Name) and isinstance(node.ctx, ast.Store):
            names.add(node.id)
    return names


def top_names(tree):
    """The names that a file binds: its imports, its classes, its functions and values."""
    imports, classes, others = [], [], []
    for node in tree.body:
        if isinstance(node, ast.ImportFrom):
            imports += [told.name for told in node.names]
        elif isinstance(node, ast.ClassDef):
            classes.append(node.name)
        elif isinstance(node, ast.FunctionDef):
            others.append(node.name)
        elif isinstance(node, ast.Assign):
            others += [target.id for target in node.targets]
    return imports, classes, others


class Form(unittest.TestCase):
    def test_only_plain_files(self):
        for name, text in files():
            self.assertRegex(name, r"^[a-z_][a-z0-9_]*\.py$")
            self.assertRegex(text, r"\A[ -~\n]*\Z")
            self.assertLessEqual(len(text.splitlines()), 399, name)
            for line in text.splitlines():
                self.assertLessEqual(len(line), 120, (name, line))

    def test_functions_are_small(self):
        for name, tree in trees():
            for function in functions_of(tree):
                self.assertLessEqual(function.end_lineno - function.lineno + 1, 40, (name, function.name))
                self.assertEqual(function.decorator_list, [])

    def test_module_level(self):
        for name, tree in trees():
            for k, node in enumerate(tree.body):
                docstring = k == 0 and isinstance(node, ast.Expr) and isinstance(node.value, ast.Constant)
                kinds = (ast.ImportFrom, ast.FunctionDef, ast.ClassDef, ast.Assign)
                self.assertTrue(docstring or isinstance(node, kinds), (name, node.lineno))

    def test_imports(self):
        links = {}
        for name, tree in trees():
            links[name[:-3]] = set()
            for node in ast.walk(tree):
                self.assertNotIsInstance(node, STATEMENTS)
                if isinstance(node, ast.ImportFrom):
                    self.assertIn(node, tree.body)
                    self.assertTrue(all(told.asname is None for told in node.names))
                    self.import_is_right(node, links[name[:-3]])
        self.assert_no_rings(links)

    def import_is_right(self, node, links):
        names = {told.name for told in node.names}
        if node.module in LIBRARY:
            self.assertLessEqual(names, LIBRARY[node.module])
        else:
            self.assertTrue(node.module.startswith("ballmoves."))
            source = node.module.split(".")[1]
            links.add(source)
            _, classes, others = top_names(dict(trees())[source + ".py"])
            self.assertLessEqual(names, set(classes + others), node.module)

    def assert_no_rings(self, links):
        left = dict(links)
        while left:
            free = [name for name in left if not left[name] & set(left)]
            self.assertTrue(free, left)
            for name in free:
                del left[name]

    def test_names(self):
        for name, tree in trees():
            imports, classes, others = top_names(tree)
            bound = imports + classes + others
            self.assertEqual(len(set(bound)), len(bound), name)
            for told in bound:
                self.assertNotIn(told, dir(builtins), name)
            for function in functions_of(tree):
                for told in bound_names(function):
                    self.assertNotIn(told, imports + classes, (name, function.name))
                    self.assertNotIn(told, dir(builtins), (name, function.name))
                    self.assertNotIn(told, BARRED, (name, function.name))

    def test_builtins_and_methods(self):
        own = set()
        for _, tree in trees():
            own |= {node.name for node in ast.walk(tree) if isinstance(node, (ast.FunctionDef, ast.ClassDef))}
        for name, tree in trees():
            for node in ast.walk(tree):
                if isinstance(node, ast.Name) and node.id in dir(builtins):
                    self.assertIn(node.id, BUILTINS, (name, node.lineno))
                if isinstance(node, ast.Call) and isinstance(node.func, ast.Attribute):
                    self.assertIn(node.func.attr, METHODS | own, (name, node.lineno))

    def test_exponents(self):
        for name, tree in trees():
            for node in ast.walk(tree):
                if isinstance(node, ast.BinOp) and isinstance(node.op, ast.Pow):
                    self.assertIsInstance(node.right, ast.Constant, (name, node.lineno))
                    self.assertTrue(0 <= node.right.value <= 64)
                if isinstance(node, (ast.BinOp, ast.AugAssign)):
                    self.assertNotIsInstance(node.op, ast.Div, (name, node.lineno))

    def test_strings(self):
        for name, tree in trees():
            for node in ast.walk(tree):
                if isinstance(node, ast.Constant):
                    self.assertNotIsInstance(node.value, (float, complex))
                    if isinstance(node.value, str):
                        self.assertNotIn("%", node.value, (name, node.lineno))

    def test_classes(self):
        """No name is a method and an attribute of one class; attributes are set off names, and read only if some class sets them."""
        stored, read, methods = set(), set(), set()
        for name, tree in trees():
            for node in ast.walk(tree):
                if isinstance(node, ast.ClassDef):
                    own = [told.name for told in node.body if isinstance(told, ast.FunctionDef)]
                    self.assertEqual(len(set(own)), len(own), (name, node.name))
                    methods |= set(own)
                    set_here = {told.attr for told in ast.walk(node) if isinstance(told, ast.Attribute) and isinstance(told.ctx, ast.Store)}
                    self.assertFalse(set_here & set(own), (name, node.name))
                if isinstance(node, ast.Attribute) and isinstance(node.ctx, ast.Store):
                    self.assertIsInstance(node.value, ast.Name, (name, node.lineno))
                    stored.add(node.attr)
                elif isinstance(node, ast.Attribute):
                    read.add(node.attr)
        self.assertLessEqual(read, stored | methods | METHODS)

    def test_handlers(self):
        for name, tree in trees():
            own = top_names(tree)[0]
            for node in ast.walk(tree):
                if isinstance(node, ast.ExceptHandler):
                    told = node.type.elts if isinstance(node.type, ast.Tuple) else [node.type]
                    self.assertLessEqual({error.id for error in told}, set(own), (name, node.lineno))

    def test_barred_words(self):
        barred = r"\b(type|typing|enum|Enum|Flag|Generic|Protocol|ABC|namedtuple|dataclass|_wall|mro|law|elements|register)\b"
        for name, text in files():
            self.assertNotRegex(text, barred, name)

    def test_identity_and_sets(self):
        for name, tree in trees():
            for node in ast.walk(tree):
                if isinstance(node, ast.Compare):
                    for op, right in zip(node.ops, node.comparators):
                        if isinstance(op, (ast.Is, ast.IsNot)):
                            self.assertIsInstance(right, ast.Constant, (name, node.lineno))
                self.assertNotIsInstance(node, (ast.Set, ast.SetComp, ast.GeneratorExp, ast.Yield), (name,))


if __name__ == "__main__":
    unittest.main()
