"""The package as a whole: where the interface stands, and the rules for its files."""

import ast
import importlib
import inspect
import pathlib
import unittest

from waypapers.desk import Desk
from waypapers.maps import Map

FOLDER = pathlib.Path(__file__).resolve().parent.parent / "waypapers"

INTERFACE = {
    "errors": (
        "WaypapersError", "InvalidMap", "InvalidQuestion", "NothingToUndo", "NothingToRedo", "UnknownName",
        "InvalidRoute", "InvalidSet", "Conflict", "UnknownVersion", "InvalidNotation", "InvalidPaper", "NameInUse",
    ),
    "maps": ("is_name", "Map"),
    "notation": ("format_map", "parse_map"),
    "travel": ("enter", "last_entry", "arrive", "run", "waiting"),
    "routes": ("Route", "labels", "places_from", "earliest"),
    "papers": ("Paper", "paper", "check_paper"),
    "latest": ("Latest", "latest_start", "arrivals_from", "quickest", "slowest"),
    "apart": ("Apart", "apart", "check_apart", "vital_roads"),
    "delays": ("delays", "worst_delay"),
    "tours": ("Tour", "tour"),
    "sets": ("applied", "taken_back", "touched", "leaned_on", "clashes", "are_apart"),
    "desk": ("Entry", "Desk", "replayed", "merged"),
}

METHODS = {
    Map: (
        "road_names", "road", "check_place", "check_kind", "roads_from", "roads_to", "is_barred", "may_follow",
        "followers", "may_use", "with_road", "without_road", "with_hours", "with_place", "without_place", "with_bar",
        "without_bar",
    ),
    Desk: (
        "version", "map_at", "entry", "conflicts", "hand_in", "take_back", "hands", "touched_by", "before",
    ),
}

# The arguments of the interface, by their names.
ARGUMENTS = {
    "routes.Route": "roads arrival",
    "routes.labels": "chart kind start moment",
    "routes.places_from": "chart kind start moment",
    "routes.earliest": "chart kind start goal moment",
    "papers.Paper": "roads arrival lows",
    "papers.paper": "chart kind start goal moment",
    "papers.check_paper": "chart kind start goal moment told",
    "latest.Latest": "moment roads arrival",
    "latest.latest_start": "chart kind start goal by",
    "latest.arrivals_from": "chart kind start goal moments",
    "latest.quickest": "chart kind start goal moments",
    "latest.slowest": "chart kind start goal moments",
    "apart.Apart": "routes cut",
    "apart.apart": "chart kind start goal",
    "apart.check_apart": "chart kind start goal routes cut",
    "apart.vital_roads": "chart kind start goal",
    "delays.delays": "chart kind start goal moment",
    "delays.worst_delay": "chart kind start goal moment",
    "tours.Tour": "roads arrival order",
    "tours.tour": "chart kind start stops moment goal",
    "sets.applied": "chart changes",
    "sets.taken_back": "changes",
    "sets.touched": "changes",
    "sets.leaned_on": "changes",
    "sets.clashes": "changes others",
    "sets.are_apart": "changes others",
    "desk.Entry": "hand base changes",
    "desk.Desk": "chart",
    "desk.replayed": "chart entries",
    "desk.merged": "chart sets",
}

DESK_ARGUMENTS = {
    "map_at": "number", "entry": "number", "conflicts": "base changes", "hand_in": "hand base changes",
    "take_back": "hand number", "hands": "", "touched_by": "thing", "before": "thing number",
}


def arguments(called):
    """Return the names of the arguments of a function or a class, in one string."""
    return " ".join(inspect.signature(called).parameters)


def sources():
    """Return the path and the text of each file of the package."""
    return [(path, path.read_text(encoding="utf-8")) for path in sorted(FOLDER.glob("*.py"))]


class InterfaceTest(unittest.TestCase):
    def test_everything_is_defined_in_its_file(self):
        for file, names in INTERFACE.items():
            tree = ast.parse((FOLDER / f"{file}.py").read_text(encoding="utf-8"))
            defined = [row.name for row in tree.body if isinstance(row, (ast.FunctionDef, ast.ClassDef))]
            for name in names:
                with self.subTest(file=file, name=name):
                    self.assertIn(name, defined)
                    self.assertTrue(hasattr(importlib.import_module(f"waypapers.{file}"), name))

    def test_methods_stand_in_the_class_itself(self):
        for told, names in METHODS.items():
            for name in names:
                with self.subTest(told=told, name=name):
                    self.assertIn(name, vars(told))

    def test_arguments(self):
        for place, expected in ARGUMENTS.items():
            file, name = place.split(".")
            with self.subTest(place=place):
                self.assertEqual(arguments(getattr(importlib.import_module(f"waypapers.{file}"), name)), expected)
        for name, expected in DESK_ARGUMENTS.items():
            with self.subTest(name=name):
                self.assertEqual(arguments(getattr(Desk, name)), f"self {expected}".strip())

    def test_init_defines_nothing(self):
        self.assertEqual(ast.parse((FOLDER / "__init__.py").read_text(encoding="utf-8")).body, [])


class FilesTest(unittest.TestCase):
    def test_the_folder_contains_files_of_code_only(self):
        others = [path.name for path in FOLDER.iterdir() if path.suffix != ".py" and path.name != "__pycache__"]
        self.assertEqual(others, [])

    def test_characters_and_sizes(self):
        for path, text in sources():
            with self.subTest(file=path.name):
                self.assertTrue(all(sign == "\n" or " " <= sign <= "~" for sign in text))
                lines = text.split("\n")
                self.assertLessEqual(len(lines), 399)
                self.assertLessEqual(max(len(line) for line in lines), 120)

    def test_sizes_of_functions(self):
        for path, text in sources():
            for node in ast.walk(ast.parse(text)):
                if isinstance(node, ast.FunctionDef):
                    with self.subTest(file=path.name, name=node.name):
                        self.assertLessEqual(node.end_lineno - node.lineno + 1, 40)

    def test_imports_are_from_the_package_or_of_heaps(self):
        for path, text in sources():
            for node in ast.walk(ast.parse(text)):
                with self.subTest(file=path.name):
                    self.assertNotIsInstance(node, ast.Import)
                    if isinstance(node, ast.ImportFrom) and node.module != "heapq":
                        self.assertTrue(node.module.startswith("waypapers."))
                        self.assertEqual(node.level, 0)


if __name__ == "__main__":
    unittest.main()
