"""What can be seen mechanically of the rules of LANGUAGE.md, and the interface of DOC.md."""

import ast
import builtins
import importlib
import inspect
import re
import unittest
from pathlib import Path

PACKAGE = Path(__file__).resolve().parent.parent / "plateways"
FILES = sorted(PACKAGE.glob("*.py"))

# Each function and class of the interface that is written, with its parameters, and the methods of the classes.
INTERFACE = {
    "errors": {
        "PlateError": None, "InvalidCommand": None,
        "InvalidStep": ("word",), "InvalidWork": ("word",), "InvalidKitchen": ("word",), "InvalidBook": ("word",),
        "InvalidText": ("at",), "InvalidRow": ("at",), "InvalidWay": ("at",), "InvalidStory": ("at",),
        "Refused": ("at",), "NoStep": ("name",), "NoPlace": ("name",), "NoLimit": ("at",),
    },
    "steps": {"Step": ("name", "places", "arrows=()")},
    "works": {
        "Work": ("steps", "ahead=()"), "is_beginning": ("work", "value"), "is_order": ("work", "value"),
        "many_orders": ("work",),
    },
    "kitchens": {"Kitchen": ("work", "traces=()", "limits=()")},
    "cooking": {name: ("kitchen", "beginning") for name in ("levels", "reached", "met")},
    "ways": {
        "loss": ("work", "way"), "closed": ("work", "way", "last=None"), "can_happen": ("work", "way", "last=None"),
        "order_of": ("work", "way", "last=None"),
    },
    "reasons": {"reason": ("work", "way", "last=None"), "reason_holds": ("work", "way", "last", "value")},
    "together": {name: ("work", "several") for name in ("together", "order_of_all", "first_row")},
    "reaching": {
        "worst": ("kitchen", "trace", "step", "place"), "worst_way": ("kitchen", "trace", "step", "place"),
        "harms": ("kitchen",), "harmful_ways": ("kitchen", "at"),
    },
    "meeting": {name: ("kitchen", "one", "other") for name in ("meets", "meeting")},
    "papers": {"paper": ("kitchen", "at"), "paper_holds": ("kitchen", "at", "value")},
    "washing": {"least_washings": ("kitchen", "places")},
    "fencing": {"is_fenced": ("kitchen", "pairs"), "least_fences": ("kitchen",)},
    "clean": {
        "many_clean": ("kitchen",), "clean_order": ("kitchen",), "clean_next": ("kitchen", "beginning"), "surely": ("kitchen",),
    },
    "logs": {name: ("kitchen", "log", "at") for name in ("status", "settling", "questions")},
    "comparing": {name: ("p", "q") for name in ("never_worse", "worse", "alike")},
    "books": {"Book": ("works", "traces=()", "limits=()")},
    "stories": {name: ("book", "story") for name in ("story_levels", "story_reached")},
    "recipes": {
        "worst_ever": ("book", "trace", "step", "place"), "story_of": ("book", "trace", "step", "place"), "ever": ("book",),
        "book_paper": ("book", "at"), "book_paper_holds": ("book", "at", "value"),
    },
    "live": {"Live": ("kitchen",)},
    "desk": {"Desk": ()},
}
METHODS = {
    ("steps", "Step"): {
        "loss": ("self", "start", "end"), "washed": ("self", "place"), "read": ("text",), "__eq__": None, "__str__": None,
    },
    ("works", "Work"): {
        "step": ("self", "name"), "is_ahead": ("self", "one", "other"), "fenced": ("self", "pairs"),
        "washed": ("self", "pairs"), "read": ("text",), "__len__": None, "__eq__": None, "__str__": None,
    },
    ("kitchens", "Kitchen"): {
        "with_work": ("self", "work"), "read": ("text",), "__eq__": None, "__str__": None,
    },
    ("books", "Book"): {"read": ("text",), "__eq__": None, "__str__": None},
    ("live", "Live"): {
        "do": ("self", "name"), "several": ("self", "names"), "add": ("self", "step", "after=()"), "undo": ("self",),
        "within": ("self", "deed"), "__len__": None, "kitchen": None, "done": None, "levels": None, "reached": None,
        "clean_next": None,
    },
    ("desk", "Desk"): {"say": ("self", "command")},
}

STATEMENTS = (ast.Global, ast.AsyncFunctionDef, ast.AsyncFor, ast.AsyncWith, ast.TryStar)
BUILTINS = set(
    "len range enumerate zip min max sum abs sorted reversed int str bool bytes list tuple dict set frozenset isinstance"
    " ord repr any all divmod pow getattr hasattr setattr iter next map Exception ValueError TypeError KeyError IndexError"
    " LookupError ZeroDivisionError ArithmeticError OverflowError RuntimeError NotImplementedError AttributeError"
    " StopIteration NotImplemented property staticmethod classmethod super".split())
METHODS_OF_VALUES = set(
    "append clear copy count endswith extend find get index insert isalnum isalpha isdigit islower isspace isupper items"
    " join keys ljust lower lstrip partition pop remove replace reverse rfind rjust rpartition rsplit rstrip setdefault"
    " split splitlines startswith strip update upper values zfill bit_length title capitalize swapcase casefold center"
    " expandtabs removeprefix removesuffix rindex isascii isdecimal isnumeric istitle isidentifier isprintable add discard"
    .split())
BARRED = set("register mro elements open input law version_info with_traceback add_note".split())
BARRED_WORDS = re.compile(
    r"\b(type|typing|typing_extensions|enum|Enum|IntEnum|StrEnum|Flag|IntFlag|Generic|Protocol|ABC|ABCMeta|namedtuple"
    r"|NamedTuple|TypedDict|TYPE_CHECKING|abstractmethod)\b|dataclass|overload|contextmanager")
DUNDERS = ("__init__", "__eq__", "__repr__", "__str__", "__len__", "__enter__", "__exit__", "__call__")


def trees():
    return [(path, ast.parse(path.read_text(encoding="utf-8"))) for path in FILES]


def nodes(kind):
    return [(path.name, node) for path, tree in trees() for node in ast.walk(tree) if isinstance(node, kind)]


def bound_names(tree):
    """The names of variables, parameters, functions and classes of a file, without attributes and methods."""
    methods = [part for node in ast.walk(tree) if isinstance(node, ast.ClassDef) for part in node.body]
    for node in ast.walk(tree):
        if isinstance(node, ast.Name) and isinstance(node.ctx, ast.Store):
            yield node.id
        elif isinstance(node, ast.arg):
            yield node.arg
        elif isinstance(node, (ast.FunctionDef, ast.ClassDef)) and node not in methods:
            yield node.name


class FilesTest(unittest.TestCase):

    def test_the_folder_holds_python_files_alone(self):
        others = [path for path in PACKAGE.iterdir() if path.name != "__pycache__" and path not in FILES]
        self.assertEqual(others, [])

    def test_characters_and_sizes(self):
        for path in FILES:
            lines = path.read_text(encoding="utf-8").split("\n")
            self.assertLessEqual(len(lines) - 1, 399, path.name)
            for at, line in enumerate(lines, 1):
                self.assertTrue(all(" " <= letter <= "~" for letter in line), f"{path.name}:{at}")
                self.assertLessEqual(len(line), 120, f"{path.name}:{at}")
        for name, node in nodes((ast.FunctionDef, ast.Lambda)):
            self.assertLessEqual(node.end_lineno - node.lineno + 1, 40, f"{name}:{node.lineno}")

    def test_the_package_file_is_a_docstring(self):
        tree = ast.parse((PACKAGE / "__init__.py").read_text(encoding="utf-8"))
        self.assertEqual(len(tree.body), 1)
        self.assertIsNotNone(ast.get_docstring(tree))

    def test_module_level(self):
        for path, tree in trees():
            for node in tree.body:
                docstring = isinstance(node, ast.Expr) and isinstance(node.value, ast.Constant)
                plain = isinstance(node, (ast.ImportFrom, ast.FunctionDef, ast.ClassDef, ast.Assign))
                self.assertTrue(docstring or plain, f"{path.name}:{node.lineno}")


class RulesTest(unittest.TestCase):

    def test_imports_name_the_file_that_defines(self):
        self.assertEqual(nodes(ast.Import), [])
        defined = {f"plateways.{path.stem}": set(self.defined(tree)) for path, tree in trees()}
        for name, node in nodes(ast.ImportFrom):
            if node.module in ("heapq", "math", "itertools", "collections"):
                continue
            self.assertEqual(node.level, 0, name)
            for part in node.names:
                self.assertIsNone(part.asname)
                self.assertIn(part.name, defined[node.module], name)

    @staticmethod
    def defined(tree):
        for node in tree.body:
            if isinstance(node, (ast.FunctionDef, ast.ClassDef)):
                yield node.name
            elif isinstance(node, ast.Assign):
                yield node.targets[0].id

    def test_no_ring_of_imports(self):
        needs = {path.stem: {node.module.split(".")[1] for node in ast.walk(tree) if isinstance(node, ast.ImportFrom)
                             and node.module.startswith("plateways.")} for path, tree in trees()}
        while needs:
            free = [name for name in needs if not needs[name] & set(needs)]
            self.assertTrue(free, f"a ring among {sorted(needs)}")
            for name in free:
                del needs[name]

    def test_statements_and_numbers(self):
        self.assertEqual(nodes(STATEMENTS), [])
        self.assertEqual(nodes(ast.Div), [])
        for name, node in nodes(ast.Constant):
            self.assertNotIsInstance(node.value, (float, complex), f"{name}:{node.lineno}")
            if isinstance(node.value, str):
                self.assertNotIn("%", node.value, f"{name}:{node.lineno}")

    def test_decorators(self):
        for name, node in nodes((ast.FunctionDef, ast.ClassDef)):
            for part in node.decorator_list:
                told = ast.unparse(part)
                self.assertTrue(told in ("classmethod", "staticmethod", "property") or told.endswith(".setter"), name)

    def test_double_underscores(self):
        for name, node in nodes(ast.FunctionDef):
            if node.name.startswith("__"):
                self.assertIn(node.name, DUNDERS, name)

    def test_names(self):
        for path, tree in trees():
            imported = {part.name for node in ast.walk(tree) if isinstance(node, ast.ImportFrom) for part in node.names}
            classes = {node.name for node in ast.walk(tree) if isinstance(node, ast.ClassDef)}
            for word in bound_names(tree):
                # A test of examples that ran ahead leaves a builtin of this name.
                if word != "_":
                    self.assertFalse(hasattr(builtins, word), f"{path.name}: {word}")
                self.assertNotIn(word, BARRED | imported, path.name)
            for node in ast.walk(tree):
                if isinstance(node, ast.Name) and isinstance(node.ctx, ast.Store) or isinstance(node, ast.arg):
                    self.assertNotIn(node.id if isinstance(node, ast.Name) else node.arg, classes, path.name)

    def test_barred_words(self):
        for path in FILES:
            for at, line in enumerate(path.read_text(encoding="utf-8").split("\n"), 1):
                self.assertIsNone(BARRED_WORDS.search(line), f"{path.name}:{at}")

    def test_calls(self):
        own = {node.name for _, node in nodes((ast.FunctionDef, ast.ClassDef))}
        for name, node in nodes(ast.Call):
            where = f"{name}:{node.lineno}"
            if isinstance(node.func, ast.Attribute):
                self.assertIn(node.func.attr, METHODS_OF_VALUES | own, where)
            elif isinstance(node.func, ast.Name):
                if hasattr(builtins, node.func.id):
                    self.assertIn(node.func.id, BUILTINS, where)
                if node.func.id in ("any", "all", "min", "max", "sum", "sorted"):
                    self.assertFalse([part for part in node.args if isinstance(part, ast.GeneratorExp)], where)

    def test_is_beside_none_true_and_false(self):
        for name, node in nodes(ast.Compare):
            for sign, right in zip(node.ops, node.comparators):
                if isinstance(sign, (ast.Is, ast.IsNot)):
                    self.assertIn(ast.unparse(right), ("None", "True", "False"), f"{name}:{node.lineno}")

    def test_caught_errors(self):
        own = {node.name for _, node in nodes(ast.ClassDef)}
        for name, node in nodes(ast.ExceptHandler):
            caught = node.type.elts if isinstance(node.type, ast.Tuple) else [node.type]
            for part in caught:
                self.assertIn(part.id, own | {"KeyError", "ZeroDivisionError"}, f"{name}:{node.lineno}")

    def test_raised_errors_are_made_on_the_spot(self):
        for name, node in nodes(ast.Raise):
            self.assertTrue(node.exc is None or isinstance(node.exc, ast.Call), f"{name}:{node.lineno}")


class InterfaceTest(unittest.TestCase):

    def same(self, thing, told):
        if told is not None:
            parameters = inspect.signature(thing).parameters.values()
            self.assertEqual(tuple(str(part).replace(" ", "") for part in parameters), told, thing)

    def test_functions_and_classes(self):
        for file, things in INTERFACE.items():
            module = importlib.import_module(f"plateways.{file}")
            for name, told in things.items():
                thing = getattr(module, name)
                self.assertEqual(thing.__module__, module.__name__)
                self.same(thing, told)

    def test_methods_stand_in_their_class(self):
        for (file, name), methods in METHODS.items():
            shape = getattr(importlib.import_module(f"plateways.{file}"), name)
            for method, told in methods.items():
                self.assertIn(method, vars(shape))
                self.same(getattr(shape, method), told)


if __name__ == "__main__":
    unittest.main()
