"""The form of the package's files, as far as a test can see it: the rules of the language subset (L1 to L28)."""

import ast
import builtins
import pathlib
import re
import unittest

PACKAGE = pathlib.Path(__file__).parent.parent / "metnumbers"
LIBRARY = {
    "heapq": {"heappush", "heappop", "heapify", "heapreplace", "heappushpop"},
    "math": {"gcd", "lcm", "isqrt", "comb", "perm", "factorial"},
    "itertools": {
        "product", "combinations", "permutations", "chain", "accumulate", "pairwise", "islice", "zip_longest",
    },
    "collections": {"defaultdict", "deque"},
}
BUILTINS = set(
    "len range enumerate zip min max sum abs sorted reversed int str bool bytes list tuple dict set frozenset "
    "isinstance ord repr any all divmod pow getattr hasattr setattr iter next map type super property staticmethod "
    "classmethod Exception ValueError TypeError KeyError IndexError LookupError ZeroDivisionError ArithmeticError "
    "OverflowError RuntimeError NotImplementedError AttributeError StopIteration NotImplemented".split()
)
BARRED_NODES = (
    ast.AsyncFunctionDef, ast.AsyncFor, ast.AsyncWith, ast.Await, ast.Import, ast.Div, ast.MatMult,
    ast.TryStar, ast.MatchMapping,
)
BARRED_WORDS = re.compile(
    r"\b(typing|typing_extensions|enum|Enum|IntEnum|StrEnum|Flag|IntFlag|Generic|Protocol|ABC|ABCMeta|namedtuple|"
    r"NamedTuple|TypedDict|TYPE_CHECKING|abstractmethod|_wall|_WallAttr)\b|dataclass|overload|contextmanager|"
    r"Meta|metaclass="
)
BARRED_NAMES = set("register mro elements open input law version_info with_traceback add_note".split())
INTERFACE = {
    "errors": [
        "MeetError", "TooMany", "SyntaxProblem", "NoMeeting", "NoParty", "NoPair", "NoFit", "NoBar", "NoFact",
        "NoName", "NoMark", "Mismatch", "InvalidCommand",
    ],
    "names": ["is_integer", "is_name"],
    "parties": [
        "is_party", "need_party", "persons", "free_pairs", "needs", "with_met", "with_apart", "with_free", "told",
        "two_sided", "join", "look_alike",
    ],
    "meetings": ["is_meeting", "least_meeting", "meetings", "how_many", "how_many_with"],
    "bars": ["is_bar", "slack", "odd_lots", "bars_it", "bar_of", "rows"],
    "sure": ["state_of", "states", "paper_of", "shows_state", "is_settled", "only_meeting"],
    "pieces": [
        "partings", "cut", "pieces", "surely_one", "one_paper", "shows_one", "parted_meeting", "joined_meeting",
    ],
    "exchanges": ["is_exchange", "exchanged", "difference", "way", "shows_way", "switches", "switch_way"],
    "settle": ["told_as", "other_meeting", "settling", "best_question", "plan", "fewest_questions", "shows_plan"],
    "wrongs": ["groups", "excused", "is_excuse", "least_excuse", "shows_excuse", "excuses", "right_numbers"],
    "threes": ["threes", "fewest_threes", "most_threes", "by_threes", "chances"],
    "book": ["Book"],
    "texts": ["parse_party", "parse_meeting", "parse_bar", "format_party", "format_meeting", "format_bar"],
    "console": ["Console"],
}
METHODS = {
    "Book": [
        "__init__", "of", "names", "now", "__eq__", "__len__", "__contains__", "__getitem__", "state", "paper",
        "open_pairs", "ask", "news", "do", "all_done", "undo", "redo", "notes",
    ],
    "Console": ["__init__", "execute"],
}


def files():
    """Return the paths of all files of the package."""
    return sorted(path for path in PACKAGE.rglob("*") if path.is_file() and "__pycache__" not in path.parts)


def trees():
    """Return the tuples of path and syntax tree of all files of the package."""
    return [(path, ast.parse(path.read_text(encoding="utf-8"))) for path in files()]


def bound_names(tree):
    """Return the set of all names that a file binds anywhere."""
    names = {node.arg for node in ast.walk(tree) if isinstance(node, ast.arg)}
    names |= {node.id for node in ast.walk(tree) if isinstance(node, ast.Name) and not isinstance(node.ctx, ast.Load)}
    names |= {node.name for node in ast.walk(tree) if isinstance(node, (ast.FunctionDef, ast.ClassDef))}
    names |= {node.name for node in ast.walk(tree) if isinstance(node, (ast.ExceptHandler, ast.MatchAs)) and node.name}
    for node in ast.walk(tree):
        if isinstance(node, ast.ImportFrom):
            names |= {name.name for name in node.names}
    return names


def is_docstring(node):
    return isinstance(node, ast.Expr) and isinstance(node.value, ast.Constant) and isinstance(node.value.value, str)


def defined(tree):
    """Return the names of the functions and classes at module level, in order."""
    return [node.name for node in tree.body if isinstance(node, (ast.FunctionDef, ast.ClassDef))]


class FilesTest(unittest.TestCase):
    def test_names(self):
        self.assertIn(PACKAGE / "__init__.py", files())
        for path in files():
            for part in path.relative_to(PACKAGE).parts:
                self.assertRegex(part, r"^(__init__\.py|__main__\.py|[a-z][a-z0-9_]*(\.py)?)$")
            self.assertEqual(path.suffix, ".py")

    def test_size_and_signs(self):
        for path in files():
            text = path.read_text(encoding="utf-8")
            with self.subTest(path=path.name):
                self.assertRegex(text, r"\A[ -~\n]*\Z")
                self.assertLessEqual(len(text.splitlines()), 399)
                self.assertLessEqual(max(len(line) for line in text.splitlines()), 120)

    def test_functions_are_short(self):
        for path, tree in trees():
            for node in ast.walk(tree):
                if isinstance(node, ast.FunctionDef):
                    self.assertLessEqual(node.end_lineno - node.lineno + 1, 40, f"{path.name}: {node.name}")

    def test_words(self):
        for path in files():
            self.assertIsNone(BARRED_WORDS.search(path.read_text(encoding="utf-8")), path.name)
        for path, tree in trees():
            self.assertEqual(bound_names(tree) & BARRED_NAMES, set(), path.name)


class ImportsTest(unittest.TestCase):
    def test_from_the_very_file(self):
        there = {"metnumbers." + path.stem: defined(tree) + self.values(tree) for path, tree in trees()}
        there.update({module: list(names) for module, names in LIBRARY.items()})
        for path, tree in trees():
            for node in ast.walk(tree):
                if isinstance(node, ast.ImportFrom):
                    self.assertIn(node, tree.body, path.name)
                    self.assertEqual(node.level, 0, path.name)
                    for name in node.names:
                        self.assertIn(name.name, there.get(node.module, []), path.name)

    def test_each_is_used(self):
        for path, tree in trees():
            used = {node.id for node in ast.walk(tree) if isinstance(node, ast.Name)}
            for node in ast.walk(tree):
                if isinstance(node, ast.ImportFrom):
                    self.assertEqual({name.name for name in node.names} - used, set(), path.name)

    def test_none_in_a_ring(self):
        ahead = {"metnumbers." + path.stem: self.imported(tree) for path, tree in trees()}
        while ahead:
            free = [module for module, needed in ahead.items() if not needed & set(ahead)]
            self.assertTrue(free, f"imports in a ring among {sorted(ahead)}")
            ahead = {module: needed for module, needed in ahead.items() if module not in free}

    def values(self, tree):
        return [node.targets[0].id for node in tree.body if isinstance(node, ast.Assign)]

    def imported(self, tree):
        return {node.module for node in tree.body if isinstance(node, ast.ImportFrom)}


class WordsTest(unittest.TestCase):
    def test_module_level(self):
        for path, tree in trees():
            bound = []
            for node in tree.body:
                if isinstance(node, ast.Assign):
                    self.assertEqual([type(target) for target in node.targets], [ast.Name], path.name)
                    bound.append(node.targets[0].id)
                elif isinstance(node, ast.ImportFrom):
                    bound.extend(name.name for name in node.names)
                else:
                    right = isinstance(node, (ast.FunctionDef, ast.ClassDef)) or is_docstring(node)
                    self.assertTrue(right or path.name == "__main__.py", f"{path.name}: {node.lineno}")
            bound.extend(defined(tree))
            self.assertEqual(len(bound), len(set(bound)), path.name)

    def test_barred_nodes(self):
        for path, tree in trees():
            for node in ast.walk(tree):
                self.assertNotIsInstance(node, BARRED_NODES, path.name)
                if isinstance(node, ast.Constant):
                    self.assertNotIsInstance(node.value, (float, complex), path.name)
                if isinstance(node, ast.FunctionDef) and node in tree.body:
                    self.assertEqual(node.decorator_list, [], path.name)

    def test_builtins(self):
        for path, tree in trees():
            bound = bound_names(tree)
            # Python's prompt, and so a doctest, binds _ as if it were a builtin.
            self.assertEqual(bound & set(dir(builtins)) - {"_"}, set(), path.name)
            for node in ast.walk(tree):
                if isinstance(node, ast.Name) and path.name != "__main__.py":
                    self.assertIn(node.id, bound | BUILTINS, f"{path.name}: {node.lineno}")

    def test_names_of_classes_and_imports_have_one_meaning(self):
        for path, tree in trees():
            fixed = {node.name for node in tree.body if isinstance(node, ast.ClassDef)}
            for node in tree.body:
                if isinstance(node, ast.ImportFrom):
                    fixed |= {name.name for name in node.names}
            for node in ast.walk(tree):
                if isinstance(node, ast.arg):
                    self.assertNotIn(node.arg, fixed, path.name)
                if isinstance(node, ast.Name) and isinstance(node.ctx, ast.Store):
                    self.assertNotIn(node.id, fixed, path.name)


class InterfaceTest(unittest.TestCase):
    def test_each_stands_in_its_file(self):
        there = {path.stem: defined(tree) for path, tree in trees()}
        for file, names in INTERFACE.items():
            for name in names:
                self.assertIn(name, there[file])

    def test_each_method_stands_in_its_class(self):
        there = {
            node.name: [part.name for part in node.body if isinstance(part, ast.FunctionDef)]
            for _, tree in trees() for node in ast.walk(tree) if isinstance(node, ast.ClassDef)
        }
        for name, methods in METHODS.items():
            self.assertEqual(set(methods) - set(there[name]), set())


if __name__ == "__main__":
    unittest.main()
