"""What the document promises over the whole program: point 1, and the head of the interface."""

import ast
import copy
import importlib
import unittest

from interface import INTERFACE, METHODS, sources
from samples import town
from waypapers import errors
from waypapers.desk import Desk, Entry
from waypapers.maps import Map
from waypapers.papers import Paper, paper
from waypapers.routes import Route
from waypapers.session import Session

PLAIN = (int, str, bytes, type(None))
LANE = ("lane", "inn", "mill", 5, ("bus", "foot"), None)
SET = [("place", "abbey"), ("minutes", "lane", 5, 6), ("unbar", "ring", "ring")]


def state(value):
    """Return all that a value is made of, to the last list, also what an object keeps for itself."""
    if isinstance(value, PLAIN):
        return value
    if isinstance(value, (list, tuple)):
        return (type(value).__name__, [state(part) for part in value])
    if isinstance(value, dict):
        return [(state(key), state(part)) for key, part in value.items()]
    return (type(value).__name__, state(vars(value)))


def spoil(value):
    """Change each list of a value, also those of its parts and of the parts of an object."""
    if isinstance(value, (list, tuple)):
        for part in value:
            spoil(part)
    if isinstance(value, list):
        value.append("spoiled")
    if isinstance(value, (Paper, Route)) or type(value).__name__ in ("Apart", "Meeting", "Relay", "Tour", "Latest"):
        for part in vars(value).values():
            spoil(part)


def desk():
    """Return a desk with three versions behind the first map."""
    told = Desk(town())
    told.hand_in("ann", 0, SET)
    told.hand_in("bob", 0, [("bar", "back", "ruin")])
    told.hand_in("ann", 2, [("unplace", "lone")])
    return told


def session():
    told = Session()
    told.run("map m\nday 60\nkinds bus\nplaces a\nroad r a a 5 : bus : always\ndone\nset m ann 0\nplace b")
    return told


def trip_paper():
    return paper(town(), "bus", "inn", "pier", 3)


# For each function, class and method of the interface calls of it, with the arguments ahead of its keywords.
# The first argument of a method is its object.
CALLS = {
    "maps.is_name": [(("inn",), {})],
    "maps.Map": [
        ((), {"day": 60, "kinds": ["b", "a"], "places": ["y", "x"], "bars": [["r", "r"]], "roads": [
            ["r", "x", "x", 1, ["b", "a"], [[1, 2], [3, 4]]],
        ]}),
    ],
    "notation.format_map": [((town(),), {})],
    "notation.parse_map": [(("day 60\nkinds a\nplaces x\nroad r x x 5 : a : 3-9\nbar r r",), {})],
    "travel.enter": [((town(), "ferry", 22), {})],
    "travel.last_entry": [((town(), "ferry", 22), {})],
    "travel.arrive": [((town(), "ferry", 22), {})],
    "travel.run": [((town(), "bus", ["lane", "ring", "ferry"], "inn", 3), {})],
    "travel.waiting": [((town(), "bus", ["lane", "ring", "ferry"], "inn", 3), {})],
    "routes.Route": [((["lane", "ring"], 9), {})],
    "routes.labels": [((town(), "bus", "inn", 3), {})],
    "routes.places_from": [((town(), "bus", "inn", 3), {})],
    "routes.earliest": [((town(), "bus", "inn", "pier", 3), {})],
    "papers.Paper": [((["lane"], 8, [["lane", 8]]), {})],
    "papers.paper": [((town(), "bus", "inn", "pier", 3), {})],
    "papers.check_paper": [((town(), "bus", "inn", "pier", 3, trip_paper()), {})],
    "latest.Latest": [((9, ["lane"], 14), {})],
    "latest.latest_start": [((town(), "bus", "inn", "pier", 300), {})],
    "latest.arrivals_from": [((town(), "bus", "inn", "pier", [30, 0, 7]), {})],
    "latest.quickest": [((town(), "bus", "inn", "pier", [30, 0, 7]), {})],
    "latest.slowest": [((town(), "bus", "inn", "pier", [30, 0, 7]), {})],
    "apart.Apart": [(([["lane"], ["path"]], ["lane", "path"]), {})],
    "apart.apart": [((town(), "bus", "inn", "pier"), {})],
    "apart.check_apart": [((town(), "bus", "inn", "pier", [["lane", "ring", "ferry"]], ["lane"]), {})],
    "apart.vital_roads": [((town(), "bus", "inn", "pier"), {})],
    "delays.delays": [((town(), "bus", "inn", "pier", 3), {})],
    "delays.worst_delay": [((town(), "bus", "inn", "pier", 3), {})],
    "tours.Tour": [((["lane"], 8, ["mill", "pier"]), {})],
    "tours.tour": [((town(), "bus", "inn", ["pier", "mill"], 3), {"goal": "inn"})],
    "sets.applied": [((town(), list(SET)), {})],
    "sets.taken_back": [((list(SET),), {})],
    "sets.touched": [((list(SET),), {})],
    "sets.leaned_on": [((list(SET),), {})],
    "sets.clashes": [((list(SET), [("minutes", "ring", 1, 2), ("unroad", LANE)]), {})],
    "sets.are_apart": [((list(SET), [("minutes", "ring", 1, 2)]), {})],
    "desk.Entry": [(("ann", 0, list(SET)), {})],
    "desk.Desk": [((town(),), {})],
    "desk.replayed": [((town(), [Entry("ann", 0, SET), Entry("bob", 1, [])]), {})],
    "desk.merged": [((town(), [list(SET), [("unplace", "lone")]]), {})],
    "slips.format_changes": [((list(SET),), {})],
    "slips.parse_changes": [(("place a\nhours r : : 3-9",), {})],
    "slips.format_journal": [((desk(),), {})],
    "slips.parse_journal": [(("set ann 0\nplace a\nend\nset bob 1\nend",), {})],
    "commands.split_words": [(("  map  m ",), {})],
    "commands.is_command": [((["route", "m", "0", "bus", "a", "b", "7"],), {}), ((["done"],), {})],
    "session.Session": [((), {})],
    "differences.difference": [((town(), town().with_place("abbey").without_bar("ring", "ring")), {})],
    "differences.conflicts": [
        ((town(), town().with_place("abbey"), town().without_place("lone")), {}),
        ((town(), town().with_hours("lane", []), town().with_hours("lane", [(1, 2)])), {}),
    ],
    "differences.merged_maps": [((town(), town().with_place("abbey"), town().without_place("lone")), {})],
    "texts.paper_text": [((trip_paper(),), {})],
    "texts.parse_paper": [(("arrives 9\nby r\nlow r 9",), {})],
    "texts.check_text": [((town(), "bus", "inn", "pier", 3, "arrives 9\nby lane\nlow lane 9"), {})],
    "journeys.Meeting": [(("mill", 9, [Route(["lane"], 9)]), {})],
    "journeys.Relay": [(("mill", 9, [Route(["lane"], 9), Route([], 3), Route(["ring"], 12)]), {})],
    "journeys.meeting": [((town(), [("bus", "inn", 3), ("foot", "mill", 4)]), {})],
    "journeys.meeting_places": [((town(), [("bus", "inn", 3), ("foot", "mill", 4)]), {"until": 99})],
    "journeys.relay": [((town(), ("foot", "inn", 3), ("bus", "mill", 4), "pier"), {})],
    "ranges.within": [((town(), "bus", "inn", 3, 40), {})],
    "ranges.range_paper": [((town(), "bus", "inn", 3, 40), {})],
    "ranges.check_range": [((town(), "bus", "inn", 3, 5, ["mill", "inn"], [["lane", 9], ["lane", 8]]), {})],
    "ranges.nearest": [((town(), "bus", "inn", ["pier", "mill"], 3), {})],
    "ranges.unreached": [((town(), "bus", "inn"), {})],
    "reach.reached": [((town(), "bus", "inn"), {})],
    "reach.reach_table": [((town(), "bus"), {})],
    "reach.traps": [((town(), "bus", "inn"), {})],
    "reach.rounds_of_roads": [((town(), "bus"), {})],
    "Map.road_names": [((town(),), {})],
    "Map.road": [((town(), "lane"), {})],
    "Map.check_place": [((town(), "inn"), {})],
    "Map.check_kind": [((town(), "bus"), {})],
    "Map.roads_from": [((town(), "inn"), {})],
    "Map.roads_to": [((town(), "inn"), {})],
    "Map.is_barred": [((town(), "lane", "ferry"), {})],
    "Map.may_follow": [((town(), "lane", "ferry"), {})],
    "Map.followers": [((town(), "lane"), {})],
    "Map.may_use": [((town(), "bus", "lane"), {})],
    "Map.with_road": [((town(), ["new", "inn", "pier", 5, ["foot", "bus"], [[1, 2], [3, 4]]]), {})],
    "Map.without_road": [((town(), "lane"), {})],
    "Map.with_hours": [((town(), "lane", [[1, 2], [3, 4]]), {})],
    "Map.with_place": [((town(), "abbey"), {})],
    "Map.without_place": [((town(), "lone"), {})],
    "Map.with_bar": [((town(), "back", "lane"), {})],
    "Map.without_bar": [((town(), "ring", "ring"), {})],
    "Desk.version": [((desk(),), {})],
    "Desk.map_at": [((desk(), 1), {})],
    "Desk.entry": [((desk(), 1), {})],
    "Desk.conflicts": [((desk(), 0, [("minutes", "lane", 5, 9), ("place", "abbey")]), {})],
    "Desk.hand_in": [((desk(), "eve", 3, [("place", "zoo")]), {})],
    "Desk.take_back": [((desk(), "eve", 3), {})],
    "Desk.hands": [((desk(),), {})],
    "Desk.touched_by": [((desk(), ("road", "lane")), {})],
    "Desk.before": [((desk(), ("road", "lane"), 3), {})],
    "Session.run": [((session(), "minutes r 5 8\ndone\nprint m 1\nmaps"), {})],
}

# These may change their object: that is what they are for.
CHANGING = ("Desk.hand_in", "Desk.take_back", "Session.run")

# Calls that raise an error, with the name of the error, and all that is told by it.
RAISING = [
    ("maps.Map", (), {"day": 0, "kinds": ["a"]}, "InvalidMap", {}),
    ("maps.Map", (), {"day": 9, "kinds": [], "places": ["b", "a"]}, "InvalidMap", {}),
    ("notation.parse_map", ("day 60\nkinds a\nx",), {}, "InvalidNotation", {"line": 3}),
    ("notation.parse_map", ("day 0\nkinds a\nplaces",), {}, "InvalidMap", {}),
    ("travel.enter", (town(), "x", 3), {}, "UnknownName", {"name": "x"}),
    ("travel.run", (town(), "bus", ["lane", "ferry"], "inn", 3), {}, "InvalidRoute", {"number": 1}),
    ("routes.earliest", (town(), "bus", "inn", "x", 3), {}, "UnknownName", {"name": "x"}),
    ("papers.check_paper", (town(), "bus", "inn", "pier", 3, Paper(["x"], 3, [])), {}, "UnknownName", {"name": "x"}),
    ("latest.latest_start", (town(), "x", "inn", "pier", 3), {}, "UnknownName", {"name": "x"}),
    ("latest.slowest", (town(), "bus", "x", "pier", [3, 1]), {}, "UnknownName", {"name": "x"}),
    ("apart.check_apart", (town(), "bus", "inn", "inn", [["lane"]], ["lane"]), {}, "InvalidQuestion", {}),
    ("delays.delays", (town(), "bus", "inn", "x", 3), {}, "UnknownName", {"name": "x"}),
    ("tours.tour", (town(), "bus", "inn", ["mill", "mill"], 3), {}, "InvalidQuestion", {}),
    ("sets.applied", (town(), [("place", "abbey"), ("place", "inn")]), {}, "InvalidSet", {"number": 1}),
    ("desk.replayed", (town(), [Entry("ann", 1, [])]), {}, "UnknownVersion", {"number": 1}),
    ("desk.merged", (town(), [list(SET), list(SET)]), {}, "Conflict", {
        "things": [("bar", "ring", "ring"), ("place", "abbey"), ("road", "lane")],
    }),
    ("Desk.hand_in", (desk(), "eve", 0, list(SET)), {}, "Conflict", {
        "things": [("bar", "ring", "ring"), ("place", "abbey"), ("road", "lane")],
    }),
    ("Desk.take_back", (desk(), "eve", 7), {}, "UnknownVersion", {"number": 7}),
    ("slips.parse_changes", ("place a\nx",), {}, "InvalidNotation", {"line": 2}),
    ("slips.parse_journal", ("set ann 0",), {}, "InvalidNotation", {"line": 2}),
    ("differences.difference", (town(), Map(day=60, kinds=["bus"])), {}, "InvalidQuestion", {}),
    ("differences.conflicts", (town(), town(), Map(day=60, kinds=["bus"])), {}, "InvalidQuestion", {}),
    (
        "differences.merged_maps",
        (town(), town().with_hours("lane", []), town().with_hours("lane", [(1, 2)])), {},
        "Conflict", {"things": [("road", "lane")]},
    ),
    ("texts.parse_paper", ("none\nby r",), {}, "InvalidPaper", {"line": 2}),
    ("texts.check_text", (town(), "x", "inn", "pier", 3, ""), {}, "InvalidPaper", {"line": 1}),
    ("journeys.meeting", (town(), [("bus", "inn", 3), ("bus", "x", 3)]), {}, "UnknownName", {"name": "x"}),
    ("journeys.meeting_places", (town(), [("x", "y", 3)]), {"until": 9}, "UnknownName", {"name": "x"}),
    ("journeys.relay", (town(), ("bus", "inn", 3), ("bus", "inn", 3), "x"), {}, "UnknownName", {"name": "x"}),
    ("ranges.within", (town(), "bus", "x", 3, 4), {}, "UnknownName", {"name": "x"}),
    ("ranges.check_range", (town(), "bus", "inn", 3, 4, ["x"], [["y", 3]]), {}, "UnknownName", {"name": "x"}),
    ("ranges.nearest", (town(), "bus", "inn", ["mill", "x"], 3), {}, "UnknownName", {"name": "x"}),
    ("reach.traps", (town(), "bus", "x"), {}, "UnknownName", {"name": "x"}),
    ("reach.rounds_of_roads", (town(), "x"), {}, "UnknownName", {"name": "x"}),
]


def called(place):
    """Return what is called under a name of a table: of a property, the function that reads it."""
    file, name = place.split(".")
    for told in METHODS:
        if told.__name__ == file:
            found = vars(told)[name]
            return found.fget if isinstance(found, property) else found
    return getattr(importlib.import_module(f"waypapers.{file}"), name)


class NothingChangesTest(unittest.TestCase):
    def test_everything_of_the_interface_is_called(self):
        names = [f"{file}.{name}" for file, rows in INTERFACE.items() if file != "errors" for name in rows]
        names += [f"{told.__name__}.{name}" for told, rows in METHODS.items() for name in rows]
        self.assertEqual(sorted(CALLS), sorted(names))

    def test_no_arguments_change(self):
        for place, calls in CALLS.items():
            for told, named in calls:
                with self.subTest(place=place):
                    first = 1 if place in CHANGING else 0
                    before = (state(told[first:]), state(named))
                    called(place)(*told, **named)
                    self.assertEqual((state(told[first:]), state(named)), before)

    def test_a_second_question_says_the_same(self):
        for place, calls in CALLS.items():
            for told, named in calls:
                if place not in CHANGING:
                    with self.subTest(place=place):
                        answer = called(place)(*told, **named)
                        kept = state(answer)
                        spoil(answer)
                        self.assertEqual(state(called(place)(*told, **named)), kept)

    def test_arguments_are_copied_where_they_are_kept(self):
        for place, calls in CALLS.items():
            for call in calls:
                with self.subTest(place=place):
                    told, named = copy.deepcopy(call)
                    answer = called(place)(*told, **named)
                    parts = [answer, *[part for part in told if isinstance(part, (Map, Desk, Session))]]
                    kept = state(parts)
                    spoil([told, list(named.values())])
                    self.assertEqual(state(parts), kept)

    def test_no_arguments_change_where_an_error_is_raised(self):
        for place, told, named, _, _ in RAISING:
            with self.subTest(place=place):
                before = (state(told), state(named))
                self.assertRaises(ValueError, called(place), *told, **named)
                self.assertEqual((state(told), state(named)), before)


class ErrorsTest(unittest.TestCase):
    def test_errors(self):
        for place, told, named, name, parts in RAISING:
            with self.subTest(place=place):
                with self.assertRaises(errors.WaypapersError) as caught:
                    called(place)(*told, **named)
                self.assertIs(type(caught.exception), getattr(errors, name))
                self.assertIsInstance(caught.exception, ValueError)
                self.assertEqual(vars(caught.exception), parts)

    def test_every_error_class_is_one_of_the_program(self):
        told = [value for value in vars(errors).values() if isinstance(value, type)]
        self.assertEqual(len(told), len(INTERFACE["errors"]))
        for error in told:
            self.assertTrue(issubclass(error, errors.WaypapersError) and issubclass(error, ValueError))

    def test_every_error_that_is_raised_is_one_of_the_program(self):
        for path, text in sources():
            for node in ast.walk(ast.parse(text)):
                if isinstance(node, ast.Raise):
                    with self.subTest(file=path.name, line=node.lineno):
                        self.assertIn(node.exc.func.id, INTERFACE["errors"])


class NoOutsideTest(unittest.TestCase):
    def test_no_files(self):
        # What is imported is looked at in test_package.py.
        for path, text in sources():
            for node in ast.walk(ast.parse(text)):
                if isinstance(node, ast.Name):
                    with self.subTest(file=path.name, line=node.lineno):
                        self.assertNotIn(node.id, ("open", "print", "input", "eval", "exec", "hash", "id", "float"))


if __name__ == "__main__":
    unittest.main()
