import ast
import importlib
import inspect
import pathlib
import re
import unittest

PACKAGE = pathlib.Path(__file__).parent.parent / "darkdrawers"

FUNCTIONS = {
    "stocks": {
        "is_stock": "(value)",
        "stock_error": "(value)",
        "totals_of": "(stock)",
        "sizes_of": "(stock)",
        "merged": "(stock, *drawers)",
    },
    "wishes": {
        "are_collections": "(kinds, value)",
        "fulfilled_by": "(collections, counts)",
        "spoilings_of": "(collections)",
        "caps_of": "(collections, spoiling)",
    },
    "plans": {
        "is_plan": "(stock, value)",
        "is_draw": "(stock, plan, value)",
        "room_in": "(stock, caps, drawers)",
        "find_certificate": "(stock, collections, plan)",
        "certificate_holds": "(stock, collections, plan, value)",
        "is_sure": "(stock, collections, plan)",
        "sure_total": "(stock, collections)",
        "sure_number": "(stock, collections, drawer)",
    },
    "counting": {
        "count_draws": "(stock, plan)",
        "count_lucky": "(stock, collections, plan)",
        "each_draw": "(stock, plan)",
    },
    "least": {
        "least_plans": "(stock, collections)",
        "cheapest_plan": "(stock, collections, prices)",
    },
    "looking": {
        "looking_number": "(stock, collections)",
        "next_drawer": "(stock, collections, counts)",
    },
    "texts": {
        "cabinet_text": "(stock, collections)",
        "parse_cabinet": "(value)",
    },
}
CONSTANTS = {
    "bounds": ["LIMIT", "MAX_DRAWERS", "MAX_KINDS", "MAX_COUNT", "MAX_COLLECTIONS",
               "SMALL_PLANS", "SMALL_THINGS", "MAX_EDITS", "BATCH"],
}
CLASSES = {
    "errors": ["DrawerError", "TooLarge", "BadCounts", "OtherKinds", "TooMuch", "TooFew",
               "BadKinds", "BadWish", "BadHeap", "BadStock", "Busy", "TooManyEdits", "BadCount",
               "BadCollection", "TooManyCollections", "LastCollection", "NothingToUndo",
               "BadEdits", "BadEdit", "Rejected", "BadPlan", "BadMost", "TooFull", "BadText",
               "NoKind", "NoDrawer", "NoCollection", "NoVersion"],
    "hands": ["Hand"],
    "values": ["Heap", "Wish"],
    "cabinets": ["Cabinet", "HandCabinet"],
    "shells": ["Shell"],
}
# The methods that the interface lists for a class, with their parameters; None for any names.
METHODS = {
    ("hands", "Hand"): {"__init__": "(self, most)", "free": "(self, number)"},
    ("values", "Heap"): {
        "__init__": "(self, counts)", "__getitem__": None, "__add__": None, "__sub__": None,
        "__contains__": None, "__len__": None, "__str__": None, "__eq__": None,
    },
    ("values", "Wish"): {"__init__": "(self, kinds, collections)", "__call__": None},
    ("cabinets", "Cabinet"): {
        "__init__": "(self, stock, collections)",
        "put": "(self, drawer, kind, count)",
        "remove": "(self, drawer, kind, count)",
        "wish": "(self, collection)",
        "drop": "(self, index)",
        "undo": "(self)",
        "attempt": "(self, edits, *, watch=None)",
        "state": "(self, *, version=None)",
        "certificate": "(self, plan, *, version=None)",
        "walk": "(self)",
        "edits": "(self)",
        "read": None, "__len__": None, "__str__": None, "__eq__": None,
    },
    ("cabinets", "HandCabinet"): {"__init__": "(self, stock, collections, most)"},
    ("shells", "Shell"): {"__init__": "(self, cabinet)", "execute": "(self, line)"},
}

# Words that L17 bars from the files, and those that it bars inside longer words, too.
BARRED_WORDS = ["type", "typing", "typing_extensions", "enum", "Enum", "IntEnum", "StrEnum",
                "Flag", "IntFlag", "Generic", "Protocol", "ABC", "ABCMeta", "namedtuple",
                "NamedTuple", "TypedDict", "TYPE_CHECKING", "abstractmethod"]
BARRED_PARTS = ["dataclass", "overload", "contextmanager", "(type)", "Meta", "metaclass="]
# Names that L17 bars everywhere.
BARRED_NAMES = ["register", "mro", "elements", "open", "input", "law", "version_info",
                "with_traceback", "add_note"]


def parsed(path):
    return ast.parse(path.read_text(encoding="utf-8"))


def defined_in(module, kind):
    """The names that a file of the package defines itself, by nodes of this kind."""
    return [node.name for node in parsed(PACKAGE / f"{module}.py").body if isinstance(node, kind)]


class InterfaceTest(unittest.TestCase):
    def test_functions_stand_in_the_file_that_lists_them(self):
        for module, functions in FUNCTIONS.items():
            for name, parameters in functions.items():
                with self.subTest(module=module, name=name):
                    self.assertIn(name, defined_in(module, ast.FunctionDef))
                    loaded = getattr(importlib.import_module(f"darkdrawers.{module}"), name)
                    self.assertEqual(str(inspect.signature(loaded)), parameters)

    def test_classes_stand_in_the_file_that_lists_them(self):
        for module, classes in CLASSES.items():
            for name in classes:
                with self.subTest(module=module, name=name):
                    self.assertIn(name, defined_in(module, ast.ClassDef))

    def test_methods_stand_in_the_class_that_lists_them(self):
        for (module, name), methods in METHODS.items():
            held = vars(getattr(importlib.import_module(f"darkdrawers.{module}"), name))
            for method, parameters in methods.items():
                with self.subTest(name=name, method=method):
                    self.assertIn(method, held)
                    if parameters is not None:
                        self.assertEqual(str(inspect.signature(held[method])), parameters)

    def test_read_is_called_on_the_class(self):
        cabinet = importlib.import_module("darkdrawers.cabinets").Cabinet
        self.assertEqual(str(inspect.signature(cabinet.read)), "(text)")

    def test_constants_stand_in_the_file_that_lists_them(self):
        for module, constants in CONSTANTS.items():
            assigned = [node.targets[0].id for node in parsed(PACKAGE / f"{module}.py").body
                        if isinstance(node, ast.Assign)]
            for name in constants:
                with self.subTest(module=module, name=name):
                    self.assertEqual(assigned.count(name), 1)


class FormTest(unittest.TestCase):
    """The rules on files, characters, sizes and words (L1, L10, L14, L17)."""

    def setUp(self):
        self.paths = sorted(PACKAGE.rglob("*.py"))
        self.assertTrue(self.paths)

    def test_the_package_holds_only_python_files(self):
        for path in PACKAGE.iterdir():
            if path.name != "__pycache__":
                with self.subTest(path.name):
                    self.assertEqual(path.suffix, ".py")
                    self.assertTrue(path.stem.isidentifier() and path.stem.islower())

    def test_characters_are_printable_ascii_and_lines_are_short(self):
        for path in self.paths:
            lines = path.read_bytes().decode("ascii").split("\n")
            with self.subTest(path.name):
                self.assertLessEqual(len(lines), 399)
                for line in lines:
                    self.assertLessEqual(len(line), 120)
                    self.assertTrue(all(" " <= character <= "~" for character in line), line)

    def test_functions_are_short(self):
        for path in self.paths:
            for node in ast.walk(parsed(path)):
                if isinstance(node, ast.FunctionDef):
                    with self.subTest(path=path.name, function=node.name):
                        self.assertLessEqual(node.end_lineno - node.lineno + 1, 40)

    def test_barred_words_do_not_occur(self):
        for path in self.paths:
            text = path.read_text(encoding="utf-8")
            words = re.findall(r"\w+", text)
            for word in BARRED_WORDS + BARRED_NAMES:
                with self.subTest(path=path.name, word=word):
                    self.assertNotIn(word, words)
            for part in BARRED_PARTS:
                with self.subTest(path=path.name, part=part):
                    self.assertNotIn(part, text)


if __name__ == "__main__":
    unittest.main()
