"""The rules of the language subset that a simple look at the code can check."""

import ast
import builtins
import os
import unittest

FOLDER = os.path.join(os.path.dirname(os.path.dirname(os.path.abspath(__file__))), "sealwatch")
BUILTINS = (
    "len range enumerate zip min max sum abs sorted reversed int str bool list tuple dict isinstance ord repr any all"
    " divmod super property classmethod TypeError ValueError"
).split()
METHODS = (
    "append clear copy count endswith extend find get index insert isalnum isalpha isdigit islower isspace isupper items"
    " join keys ljust lower lstrip partition pop remove replace reverse rfind rjust rpartition rsplit rstrip setdefault"
    " split splitlines startswith strip update upper values zfill bit_length"
).split()
MODIFYING = "append clear extend insert pop remove reverse setdefault update sort add discard".split()
VIEWS = ("items", "keys", "values")
AT_ONCE = ("enumerate", "zip", "reversed")
DOUBLE = "__init__ __eq__ __len__ __call__ __iter__ __contains__ __getitem__ __add__ __enter__ __exit__".split()
OUTSIDE = {"math": ["gcd"]}


def sources():
    for name in sorted(os.listdir(FOLDER)):
        if name != "__pycache__":
            with open(os.path.join(FOLDER, name), encoding="utf-8") as file:
                yield name, file.read()


def parsed():
    for name, text in sources():
        yield name, ast.parse(text)


def bound_names(tree):
    """All names that a file gives to something."""
    for node in ast.walk(tree):
        if isinstance(node, ast.Name) and isinstance(node.ctx, ast.Store):
            yield node.id
        elif isinstance(node, (ast.FunctionDef, ast.ClassDef)):
            yield node.name
        elif isinstance(node, ast.arg):
            yield node.arg
        elif isinstance(node, (ast.MatchAs, ast.MatchStar)) and node.name:
            yield node.name


def walked(node):
    """What a loop over an expression iterates over: its names, attributes and items."""
    if isinstance(node, (ast.Name, ast.Attribute, ast.Subscript)):
        return [node]
    if isinstance(node, ast.Call) and isinstance(node.func, ast.Attribute) and node.func.attr in VIEWS:
        return walked(node.func.value)
    if isinstance(node, ast.Call) and isinstance(node.func, ast.Name) and node.func.id in AT_ONCE:
        return [part for argument in node.args for part in walked(argument)]
    if isinstance(node, ast.IfExp):
        return walked(node.body) + walked(node.orelse)
    if isinstance(node, ast.BoolOp):
        return [part for value in node.values for part in walked(value)]
    return []


def modified(nodes):
    """All expressions whose lists or dicts some statements modify."""
    for node in nodes:
        for part in ast.walk(node):
            if isinstance(part, (ast.Subscript, ast.Attribute)) and isinstance(part.ctx, (ast.Store, ast.Del)):
                yield part.value
            elif isinstance(part, ast.AugAssign):
                yield part.target
            elif isinstance(part, ast.Call) and isinstance(part.func, ast.Attribute) and part.func.attr in MODIFYING:
                yield part.func.value


def named(node):
    return ast.unparse(node)


class Rules(unittest.TestCase):

    def test_files(self):
        for name, text in sources():
            self.assertRegex(name, r"^[a-z_][a-z0-9_]*\.py$")
            self.assertLess(len(text.split("\n")), 400, name)
            for line in text.split("\n"):
                self.assertLessEqual(len(line), 120, name)
                self.assertRegex(line, r"^[ -~]*$", name)

    def test_functions_are_small(self):
        for name, tree in parsed():
            for node in ast.walk(tree):
                if isinstance(node, ast.FunctionDef):
                    self.assertLessEqual(node.end_lineno - node.lineno + 1, 40, (name, node.name))

    def test_imports(self):
        defined = dict(OUTSIDE)
        imported = {}
        for name, tree in parsed():
            module = "sealwatch." + name[:-3]
            defined[module] = [node.name for node in tree.body if isinstance(node, (ast.FunctionDef, ast.ClassDef))]
            for node in tree.body:
                if isinstance(node, ast.Assign):
                    defined[module] += [target.id for target in node.targets]
            imported[module] = [node for node in ast.walk(tree) if isinstance(node, (ast.Import, ast.ImportFrom))]
        for module, nodes in imported.items():
            for node in nodes:
                self.assertIsInstance(node, ast.ImportFrom, module)
                self.assertEqual(node.level, 0, module)
                for alias in node.names:
                    self.assertIn(alias.name, defined[node.module], module)
                    self.assertIsNone(alias.asname)
        left = {module: {node.module for node in nodes} - set(OUTSIDE) for module, nodes in imported.items()}
        while left:
            free = [module for module, needs in left.items() if not needs & set(left)]
            self.assertTrue(free, "files import from each other")
            for module in free:
                del left[module]

    def test_all_imports_are_used(self):
        for name, tree in parsed():
            used = {node.id for node in ast.walk(tree) if isinstance(node, ast.Name)}
            for node in ast.walk(tree):
                if isinstance(node, ast.ImportFrom):
                    for alias in node.names:
                        self.assertIn(alias.name, used, name)

    def test_names(self):
        for name, tree in parsed():
            for bound in bound_names(tree):
                if bound not in DOUBLE:
                    self.assertFalse(hasattr(builtins, bound), (name, bound))
                    self.assertFalse(bound.startswith("__"), (name, bound))
            own = {alias.name for node in ast.walk(tree) if isinstance(node, ast.ImportFrom) for alias in node.names}
            own |= {node.name for node in tree.body if isinstance(node, ast.ClassDef)}
            for node in ast.walk(tree):
                if isinstance(node, ast.FunctionDef):
                    inner = set(bound_names(node)) - {node.name}
                    self.assertFalse(inner & own, (name, node.name))

    def test_builtins_and_methods(self):
        own = {node.name for _, tree in parsed() for node in ast.walk(tree) if isinstance(node, ast.FunctionDef)}
        for name, tree in parsed():
            for node in ast.walk(tree):
                if isinstance(node, ast.Name) and hasattr(builtins, node.id):
                    self.assertIn(node.id, BUILTINS, name)
                if isinstance(node, ast.Call) and isinstance(node.func, ast.Attribute):
                    self.assertTrue(node.func.attr in METHODS or node.func.attr in own, (name, node.func.attr))

    def test_attributes_are_no_methods(self):
        methods = set()
        attributes = set()
        for _, tree in parsed():
            for node in ast.walk(tree):
                if isinstance(node, ast.ClassDef):
                    methods |= {part.name for part in node.body if isinstance(part, ast.FunctionDef)}
                if isinstance(node, ast.Attribute) and isinstance(node.ctx, ast.Store):
                    attributes.add(node.attr)
        self.assertEqual(methods & attributes, set())

    def test_forbidden_syntax(self):
        barred = (ast.Global, ast.Lambda, ast.AsyncFunctionDef, ast.Await, ast.Set, ast.SetComp, ast.GeneratorExp, ast.Div)
        for name, tree in parsed():
            for node in ast.walk(tree):
                self.assertNotIsInstance(node, barred, name)
                if isinstance(node, ast.Constant):
                    self.assertNotIsInstance(node.value, float, name)
                    self.assertFalse(isinstance(node.value, str) and "%" in node.value, name)
                if isinstance(node, ast.Call) and isinstance(node.func, ast.Name) and node.func.id == "reversed":
                    self.assertIsInstance(node.args[0], ast.Call, name)

    def test_captured_names(self):
        for name, tree in parsed():
            for node in ast.walk(tree):
                if isinstance(node, ast.FunctionDef):
                    parts = list(ast.walk(node))
                    caught = {part.name for part in parts if isinstance(part, ast.MatchAs) and part.name}
                    stored = {part.id for part in parts if isinstance(part, ast.Name) and isinstance(part.ctx, ast.Store)}
                    stored |= {part.arg for part in parts if isinstance(part, ast.arg)}
                    self.assertEqual(caught & stored, set(), (name, node.name))

    def test_generators_are_iterated_at_once(self):
        generators = {node.name for _, tree in parsed() for node in ast.walk(tree) if isinstance(node, ast.FunctionDef)
                      for part in ast.walk(node) if isinstance(part, (ast.Yield, ast.YieldFrom))}
        for name, tree in parsed():
            iterated = {id(node.iter) for node in ast.walk(tree) if isinstance(node, ast.For)}
            for node in ast.walk(tree):
                if isinstance(node, ast.Call) and isinstance(node.func, ast.Name) and node.func.id in generators:
                    self.assertIn(id(node), iterated, (name, node.func.id))

    def test_loops_do_not_modify_what_they_walk(self):
        for name, tree in parsed():
            for node in ast.walk(tree):
                if isinstance(node, ast.For):
                    changed = {named(part) for part in modified(node.body + node.orelse)}
                    self.assertEqual({named(part) for part in walked(node.iter)} & changed, set(), (name, node.lineno))
                for loop in getattr(node, "generators", []):
                    changed = {named(part) for part in modified([node])}
                    self.assertEqual({named(part) for part in walked(loop.iter)} & changed, set(), (name, node.lineno))


if __name__ == "__main__":
    unittest.main()
