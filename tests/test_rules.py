"""More rules of the language subset, as far as a syntax tree shows them: calls, methods, sets, generators, classes."""

import ast
import unittest

from tests.test_form import trees

METHODS = set(
    "append clear copy count endswith extend find get index insert isalnum isalpha isdigit islower isspace isupper items "
    "join keys ljust lower lstrip partition pop remove replace reverse rfind rjust rpartition rsplit rstrip setdefault "
    "split splitlines startswith strip update upper values zfill bit_length add discard".split()
)
NO_ATTRIBUTES = set(
    "items keys values pop update append clear extend insert remove reverse setdefault sort args encode decode hex "
    "fromhex format format_map mro as_integer_ratio bit_count conjugate from_bytes is_integer to_bytes".split()
)
AT_ONCE = {"list", "tuple", "dict", "sorted", "sum", "min", "max", "any", "all", "enumerate", "zip"}
IMPORTED = {"gcd"}


def parents(tree):
    """Return the dict from each node of a tree to the node that it stands in."""
    return {child: node for node in ast.walk(tree) for child in ast.iter_child_nodes(node)}


def called(node):
    """Return the name that a call calls, or None if it calls no bare name."""
    return node.func.id if isinstance(node, ast.Call) and isinstance(node.func, ast.Name) else None


def functions(tree):
    return [node for node in ast.walk(tree) if isinstance(node, ast.FunctionDef)]


def is_generator(function):
    return any(isinstance(node, (ast.Yield, ast.YieldFrom)) for node in ast.walk(function))


def own_names():
    """Return the names of all functions, methods and classes of the package."""
    return {node.name for _, tree in trees() for node in ast.walk(tree) if isinstance(node, (ast.FunctionDef, ast.ClassDef))}


def stored_attributes(tree):
    return {
        node.attr for node in ast.walk(tree) if isinstance(node, ast.Attribute) and isinstance(node.ctx, ast.Store)
    }


class CallsTest(unittest.TestCase):
    def test_methods(self):
        own = own_names()
        for path, tree in trees():
            for node in ast.walk(tree):
                if isinstance(node, ast.Call) and isinstance(node.func, ast.Attribute):
                    self.assertIn(node.func.attr, METHODS | own, f"{path.name}: {node.lineno}")

    def test_lists_where_a_class_has_its_own_equality(self):
        for path, tree in trees():
            for node in ast.walk(tree):
                if called(node) in ("any", "all", "sum", "min", "max", "sorted", "tuple"):
                    self.assertNotIsInstance(node.args[0], ast.GeneratorExp, f"{path.name}: {node.lineno}")
                self.assertNotIsInstance(node, ast.GeneratorExp, f"{path.name}: {getattr(node, 'lineno', 0)}")

    def test_reversed_takes_plain_lists(self):
        for path, tree in trees():
            for node in ast.walk(tree):
                if called(node) == "reversed":
                    self.assertIn(called(node.args[0]), ("list", "tuple", "sorted", "range"), f"{path.name}: {node.lineno}")

    def test_keywords_of_builtins(self):
        rights = {"sorted": {"key", "reverse"}, "min": {"key", "default"}, "max": {"key", "default"}, "sum": {"start"}}
        own = own_names()
        for path, tree in trees():
            for node in ast.walk(tree):
                if called(node) and called(node) not in own:
                    given = {keyword.arg for keyword in node.keywords}
                    self.assertEqual(given - rights.get(called(node), set()), set(), f"{path.name}: {node.lineno}")

    def test_lambdas_are_keys(self):
        for path, tree in trees():
            above = parents(tree)
            for node in ast.walk(tree):
                if isinstance(node, ast.Lambda):
                    self.assertIsInstance(above[node], ast.keyword, f"{path.name}: {node.lineno}")

    def test_iterated_at_once(self):
        for path, tree in trees():
            above = parents(tree)
            for node in ast.walk(tree):
                if called(node) in ("range", "zip", "enumerate", "reversed"):
                    self.assert_at_once(path, above, node)
                if isinstance(node, ast.Call) and isinstance(node.func, ast.Attribute):
                    if node.func.attr in ("items", "keys", "values"):
                        self.assert_at_once(path, above, node)

    def test_generators(self):
        names = {function.name for _, tree in trees() for function in functions(tree) if is_generator(function)}
        self.assertTrue(names)
        every = [function.name for _, tree in trees() for function in functions(tree)]
        for name in names:
            self.assertEqual(every.count(name), 1, name)
        for path, tree in trees():
            above = parents(tree)
            for node in ast.walk(tree):
                if isinstance(node, ast.Name) and node.id in names:
                    self.assertIsInstance(above[node], ast.Call, f"{path.name}: {node.lineno}")
                told = node.func.attr if isinstance(node, ast.Call) and isinstance(node.func, ast.Attribute) else called(node)
                if told in names:
                    self.assert_at_once(path, above, node)
                    for thing in node.args:
                        self.assertIsInstance(thing, (ast.Name, ast.Attribute, ast.Constant, ast.Tuple), path.name)

    def assert_at_once(self, path, above, node):
        place = above[node]
        if isinstance(place, (ast.For, ast.comprehension)):
            right = place.iter is node
        else:
            right = called(place) in AT_ONCE or isinstance(place, (ast.YieldFrom, ast.Compare))
        self.assertTrue(right, f"{path.name}: {node.lineno}")

    def test_library_names_are_called(self):
        for path, tree in trees():
            above = parents(tree)
            for node in ast.walk(tree):
                if isinstance(node, ast.Name) and node.id in IMPORTED:
                    self.assertEqual(called(above[node]), node.id, path.name)


class SetsTest(unittest.TestCase):
    def test_places(self):
        for path, tree in trees():
            above = parents(tree)
            for node in ast.walk(tree):
                if called(node) == "set":
                    place = above[node]
                    right = called(place) in ("len", "sorted") or isinstance(place, (ast.Compare, ast.Assign))
                    self.assertTrue(right, f"{path.name}: {node.lineno}")
                self.assertNotIsInstance(node, (ast.Set, ast.SetComp), path.name)

    def test_stored_ones(self):
        for path, tree in trees():
            for function in functions(tree):
                for node in ast.walk(function):
                    if isinstance(node, ast.Assign) and called(node.value) == "set":
                        self.assert_stored(path, function, node.targets[0].id)

    def assert_stored(self, path, function, name):
        """Assert that a stored set is assigned once, and otherwise only asked what is in it."""
        above = parents(function)
        for node in ast.walk(function):
            if isinstance(node, ast.Name) and node.id == name:
                place = above[node]
                asked = isinstance(place, ast.Compare) and isinstance(place.ops[0], (ast.In, ast.NotIn))
                self.assertTrue(isinstance(place, ast.Assign) or asked, f"{path.name}: {node.lineno}")


class WordsTest(unittest.TestCase):
    def test_is(self):
        for path, tree in trees():
            for node in ast.walk(tree):
                if isinstance(node, ast.Compare):
                    for sign, right in zip(node.ops, node.comparators):
                        if isinstance(sign, (ast.Is, ast.IsNot)):
                            self.assertIsInstance(right, ast.Constant, f"{path.name}: {node.lineno}")
                            self.assertIn(right.value, (None, True, False))

    def test_strings(self):
        for path, tree in trees():
            for node in ast.walk(tree):
                if isinstance(node, ast.Constant) and isinstance(node.value, str):
                    self.assertNotIn("%", node.value, f"{path.name}: {node.lineno}")
                    self.assertNotIn("__", node.value, f"{path.name}: {node.lineno}")
                if isinstance(node, ast.FormattedValue):
                    inner = [part for part in ast.walk(node.value) if isinstance(part, (ast.JoinedStr, ast.Constant))]
                    texts = [part for part in inner if not isinstance(getattr(part, "value", None), int)]
                    self.assertEqual(texts, [], f"{path.name}: {node.lineno}")

    def test_no_trials_and_no_outer_names(self):
        barred = (ast.Try, ast.Global, ast.Nonlocal, ast.With, ast.Match, ast.AnnAssign, ast.NamedExpr, ast.Delete, ast.Assert)
        for path, tree in trees():
            for node in ast.walk(tree):
                self.assertNotIsInstance(node, barred, path.name)
                if isinstance(node, ast.arg):
                    self.assertIsNone(node.annotation, path.name)

    def test_raise_on_the_spot(self):
        for path, tree in trees():
            for node in ast.walk(tree):
                if isinstance(node, ast.Raise):
                    self.assertIsNotNone(called(node.exc), f"{path.name}: {node.lineno}")

    def test_module_level_values(self):
        for path, tree in trees():
            above = set()
            for node in tree.body:
                if isinstance(node, ast.FunctionDef):
                    above.add(node.name)
                if isinstance(node, ast.Assign):
                    for part in ast.walk(node.value):
                        right = isinstance(part, (ast.Constant, ast.Tuple, ast.Dict, ast.List, ast.Load))
                        self.assertTrue(right or getattr(part, "id", None) in above, f"{path.name}: {node.lineno}")

    def test_module_level_tables_are_only_read(self):
        for path, tree in trees():
            tables = {
                node.targets[0].id for node in tree.body
                if isinstance(node, ast.Assign) and isinstance(node.value, (ast.Dict, ast.List))
            }
            above = parents(tree)
            for node in ast.walk(tree):
                if isinstance(node, ast.Name) and node.id in tables and isinstance(node.ctx, ast.Load):
                    self.assertIsInstance(above[node], (ast.Subscript, ast.Compare), f"{path.name}: {node.lineno}")

    def test_loops_leave_alone_what_they_go_over(self):
        changing = {"append", "clear", "extend", "insert", "pop", "remove", "reverse", "setdefault", "update"}
        for path, tree in trees():
            for loop in ast.walk(tree):
                if isinstance(loop, ast.For):
                    over = ast.unparse(loop.iter)
                    for node in ast.walk(loop):
                        if isinstance(node, ast.Call) and isinstance(node.func, ast.Attribute) and node.func.attr in changing:
                            self.assertNotIn(ast.unparse(node.func.value), over, f"{path.name}: {node.lineno}")


class ClassesTest(unittest.TestCase):
    def test_names(self):
        for path, tree in trees():
            for node in ast.walk(tree):
                if isinstance(node, ast.ClassDef):
                    methods = {part.name for part in node.body if isinstance(part, ast.FunctionDef)}
                    stored = stored_attributes(node)
                    self.assertEqual(methods & stored, set(), node.name)
                    self.assertEqual((methods | stored) & (METHODS | NO_ATTRIBUTES), set(), node.name)
                    self.assertEqual(node.decorator_list, [])

    def test_no_name_is_a_method_here_and_an_attribute_there(self):
        methods, stored = set(), set()
        for _, tree in trees():
            stored |= stored_attributes(tree)
            for node in ast.walk(tree):
                if isinstance(node, ast.ClassDef):
                    methods |= {part.name for part in node.body if isinstance(part, ast.FunctionDef)}
        self.assertEqual(methods & stored, set())

    def test_decorators(self):
        for path, tree in trees():
            for function in functions(tree):
                names = [getattr(decorator, "id", None) for decorator in function.decorator_list]
                self.assertIn(names, ([], ["property"], ["classmethod"]), f"{path.name}: {function.name}")

    def test_attributes_begin_in_init(self):
        for path, tree in trees():
            for node in ast.walk(tree):
                if isinstance(node, ast.ClassDef):
                    made = [part for part in node.body if getattr(part, "name", None) == "__init__"]
                    first = stored_attributes(made[0]) if made else set()
                    self.assertEqual(stored_attributes(node) - first, set(), node.name)

    def test_operators_change_nothing(self):
        seen = set()
        for _, tree in trees():
            for function in functions(tree):
                if function.name.startswith("__") and function.name != "__init__":
                    seen.add(function.name)
                    for node in ast.walk(function):
                        self.assertNotIsInstance(node, (ast.Assign, ast.AugAssign), function.name)
        self.assertEqual(seen, {"__eq__", "__len__", "__contains__", "__getitem__", "__iter__"})


if __name__ == "__main__":
    unittest.main()
