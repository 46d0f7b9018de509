"""Routes apart: points 41 to 47, and the interface of waypapers/apart.py."""

import itertools
import random
import unittest

from asking import AskingTest
from plain import can_drive, full_map, has_way, least_cut, random_map
from samples import town
from waypapers.apart import Apart, apart, check_apart, vital_roads
from waypapers.maps import Map

CAR = ["car"]


def chart_of(*roads, bars=()):
    """Return a map with roads of the form (name, start, end) that take a minute, and the places a to f."""
    rows = [(*road, 1, CAR, None) if len(road) == 3 else road for road in roads]
    return Map(day=60, kinds=["bus", "car"], places=["a", "b", "c", "d", "e", "f"], roads=rows, bars=bars)


def example():
    """Return the map of the example of the interface."""
    roads = [
        ("r1", "a", "b", 5, ["car"], None), ("r2", "a", "b", 9, ["car"], [(0, 60)]), ("r3", "b", "c", 1, ["car"], None),
    ]
    return Map(day=60, kinds=["car"], places=["a", "b", "c"], roads=roads)


def is_right(chart, kind, start, goal, routes, cut):
    """Tell by the words of point 44 whether routes and a cut are right."""
    ends = {road[0]: road[2] for road in chart.roads}
    for route in routes:
        if not route or any(name not in ends for name in route):
            return False
        if not can_drive(chart, kind, start, route) or ends[route[-1]] != goal:
            return False
    used = [name for route in routes for name in route]
    if any(used.count(name) > 1 for name in used) or len(cut) != len(routes):
        return False
    return not has_way(chart, kind, start, goal, cut)


class ApartTest(AskingTest):
    def assert_apart(self, many, chart, start, goal, kind="car"):
        """Ask, and look at the ways and the cut. Return them."""
        found = apart(chart, kind, start, goal)
        self.assertIsInstance(found, Apart)
        self.assertEqual((len(found.routes), len(found.cut)), (many, many))
        self.assertEqual(len(set(found.cut)), many)
        self.assertTrue(all(isinstance(route, tuple) for route in [*found.routes, found.cut]))
        self.assertTrue(is_right(chart, kind, start, goal, found.routes, found.cut))
        self.assertIs(check_apart(chart, kind, start, goal, found.routes, found.cut), True)
        return found

    def test_fields(self):
        route, routes, cut = ["r"], [], ["r"]
        routes.append(route)
        found = Apart(routes, cut)
        route.append("q")
        routes.append(["s"])
        cut.append("q")
        self.assertEqual((found.routes, found.cut), ([("r",)], ("r",)))
        self.assertIsInstance(Apart((), ()).routes, list)

    def test_example_of_the_interface(self):
        self.assertEqual(len(apart(example(), "car", "a", "b").routes), 2)
        self.assertEqual(apart(example(), "car", "a", "c").cut, ("r3",))
        self.assertTrue(check_apart(example(), "car", "a", "c", [["r2", "r3"]], ["r3"]))

    def test_no_way(self):
        for start, goal in (("c", "a"), ("b", "a"), ("c", "b")):
            found = self.assert_apart(0, example(), start, goal)
            self.assertEqual((found.routes, found.cut), ([], ()))
        self.assert_apart(0, Map(day=1, kinds=CAR, places=["a", "b"]), "a", "b")

    def test_roads_side_by_side(self):
        roads = [(f"r{number}", "a", "b") for number in range(9)]
        self.assert_apart(9, chart_of(*roads), "a", "b")
        self.assert_apart(9, chart_of(*roads, *[(f"s{number}", "b", "c") for number in range(11)]), "a", "c")
        self.assert_apart(2, chart_of(*roads, ("s", "b", "c"), ("t", "b", "c")), "a", "c")

    def test_the_first_way_has_to_be_given_up(self):
        # A way over the bridge from b to c takes the place of two ways.
        roads = (("ab", "a", "b"), ("ac", "a", "c"), ("bc", "b", "c"), ("bd", "b", "d"), ("cd", "c", "d"))
        self.assert_apart(2, chart_of(*roads), "a", "d")
        # Whichever names the roads have.
        for names in itertools.permutations(("r1", "r2", "r3", "r4", "r5")):
            renamed = [(name, *road[1:]) for name, road in zip(names, roads)]
            self.assert_apart(2, chart_of(*renamed), "a", "d")

    def test_two_ways_have_to_be_given_up(self):
        roads = (
            ("a1", "a", "b"), ("a2", "a", "c"), ("a3", "a", "d"), ("b1", "b", "c"), ("b2", "c", "d"), ("b3", "d", "e"),
            ("c1", "b", "f"), ("c2", "c", "f"), ("c3", "d", "f"), ("c4", "e", "f"),
        )
        self.assert_apart(3, chart_of(*roads), "a", "f")
        self.assert_apart(2, chart_of(*roads).without_road("a2"), "a", "f")

    def test_bars_keep_ways_off(self):
        roads = (("r1", "a", "b"), ("r2", "a", "b"), ("s1", "b", "c"), ("s2", "b", "c"))
        self.assert_apart(2, chart_of(*roads), "a", "c")
        self.assert_apart(2, chart_of(*roads, bars=[("r1", "s1")]), "a", "c")
        self.assert_apart(2, chart_of(*roads, bars=[("r1", "s1"), ("r2", "s2")]), "a", "c")
        self.assert_apart(1, chart_of(*roads, bars=[("r1", "s1"), ("r2", "s1")]), "a", "c")
        self.assert_apart(1, chart_of(*roads, bars=[("r1", "s1"), ("r1", "s2")]), "a", "c")
        bars = [("r1", "s1"), ("r1", "s2"), ("r2", "s1"), ("r2", "s2")]
        self.assert_apart(0, chart_of(*roads, bars=bars), "a", "c")

    def test_bars_make_a_way_longer_and_pass_a_place_twice(self):
        roads = (("in", "a", "b"), ("out", "b", "c"), ("ring", "b", "b"))
        found = self.assert_apart(1, chart_of(*roads, bars=[("in", "out")]), "a", "c")
        self.assertEqual(found.routes, [("in", "ring", "out")])
        # Two ways cannot both turn on the ring.
        more = (*roads, ("in2", "a", "b"), ("out2", "b", "c"))
        bars = [(one, other) for one in ("in", "in2") for other in ("out", "out2")]
        found = self.assert_apart(1, chart_of(*more, bars=bars), "a", "c")
        self.assertEqual(found.cut, ("ring",))

    def test_a_way_may_pass_its_first_and_its_last_place(self):
        roads = (("r1", "a", "b"), ("r2", "b", "a"), ("r3", "a", "c"))
        self.assert_apart(1, chart_of(*roads), "a", "c")
        self.assertTrue(check_apart(chart_of(*roads), "car", "a", "c", [["r1", "r2", "r3"]], ["r3"]))
        self.assertFalse(check_apart(chart_of(*roads), "car", "a", "c", [["r1", "r2", "r3"]], ["r1"]))
        roads = (("x1", "a", "c"), ("x2", "c", "b"), ("x3", "b", "c"))
        found = self.assert_apart(1, chart_of(*roads), "a", "c")
        self.assertEqual(found.cut, ("x1",))
        self.assertTrue(check_apart(chart_of(*roads), "car", "a", "c", [["x1", "x2", "x3"]], ["x1"]))

    def test_hours_do_not_matter_but_never_open_roads_do(self):
        roads = [("r1", "a", "b", 5, CAR, [(3, 4)]), ("r2", "a", "b", 5, CAR, []), ("r3", "a", "b", 5, ["bus"], None)]
        found = self.assert_apart(1, chart_of(*roads), "a", "b")
        self.assertEqual((found.routes, found.cut), ([("r1",)], ("r1",)))
        self.assert_apart(1, chart_of(*roads), "a", "b", kind="bus")
        self.assert_apart(0, chart_of(*roads[1:]), "a", "b")

    def test_as_many_ways_as_the_least_cut(self):
        found = {}
        for seed in range(150):
            chance = random.Random(seed)
            chart = random_map(seed, places=4, roads=chance.randint(6, 10), bars=chance.randint(0, 8))
            for goal in ("p1", "p2"):
                many = least_cut(chart, "car", "p0", goal)
                found[many] = found.get(many, 0) + 1
                self.assert_apart(many, chart, "p0", goal)
        self.assertTrue(all(found.get(many, 0) > 5 for many in (0, 1, 2)))

    def test_full_maps(self):
        for seed in range(6):
            for chart in (full_map(seed), random_map(seed, places=6, roads=60, bars=40)):
                found = apart(chart, "car", "p0", "p1")
                self.assert_apart(len(found.cut), chart, "p0", "p1")

    def test_nothing_changes(self):
        one, other = self.assert_nothing_changes(apart, town(), "bus", "inn", "pier")
        self.assertEqual(vars(one), vars(other))
        one.routes.append(("ring",))
        self.assertEqual(vars(apart(town(), "bus", "inn", "pier")), vars(other))


class CheckApartTest(AskingTest):
    def assert_check(self, expected, routes, cut, chart=None, start="a", goal="c"):
        chart = example() if chart is None else chart
        self.assertIs(check_apart(chart, "car", start, goal, routes, cut), expected)
        self.assertIs(is_right(chart, "car", start, goal, routes, cut), expected)

    def test_right_ones(self):
        self.assert_check(True, [["r1", "r3"]], ["r3"])
        self.assert_check(True, [("r2", "r3")], ("r3",))
        self.assert_check(True, (("r1",), ["r2"]), ["r2", "r1"], goal="b")
        self.assert_check(True, [], [], start="c", goal="a")

    def test_a_route_that_is_no_way(self):
        for route in ([], ["r3"], ["r1"], ["r3", "r1"], ["r1", "r2", "r3"], ["r1", "r3", "r3"], ["r1", "r3", "r1"]):
            self.assert_check(False, [route], ["r3"])

    def test_a_barred_route(self):
        self.assert_check(False, [["r1", "r3"]], ["r3"], chart=example().with_bar("r1", "r3"))
        self.assert_check(True, [["r2", "r3"]], ["r3"], chart=example().with_bar("r1", "r3"))

    def test_a_route_of_roads_that_cannot_be_used(self):
        self.assert_check(False, [["r1", "r3"]], ["r3"], chart=example().with_hours("r1", []))
        self.assert_check(True, [["r1", "r3"]], ["r3"], chart=example().with_hours("r2", []))
        closed = example().with_road(("r1", "a", "b", 5, [], None))
        self.assert_check(False, [["r1", "r3"]], ["r3"], chart=closed)
        self.assert_check(True, [["r2"]], ["r2"], chart=closed, goal="b")

    def test_routes_that_are_not_apart(self):
        self.assert_check(False, [["r1", "r3"], ["r2", "r3"]], ["r1", "r2"])
        self.assert_check(False, [["r1"], ["r1"]], ["r1", "r2"], goal="b")
        roads = (("in", "a", "b"), ("ring", "b", "b"), ("out", "b", "c"))
        self.assert_check(False, [["in", "ring", "ring", "out"]], ["in"], chart=chart_of(*roads))
        self.assert_check(True, [["in", "ring", "out"]], ["in"], chart=chart_of(*roads))

    def test_another_number_of_roads_in_the_cut(self):
        self.assert_check(False, [["r1", "r3"]], [])
        self.assert_check(False, [["r1", "r3"]], ["r3", "r1"])
        self.assert_check(False, [["r1", "r3"]], ["r1", "r2"])
        self.assert_check(False, [], ["r3"])
        self.assert_check(False, [["r1"]], ["r1", "r2"], goal="b")

    def test_a_cut_that_leaves_a_way(self):
        self.assert_check(False, [["r1", "r3"]], ["r1"])
        self.assert_check(False, [["r1", "r3"]], ["r2"])
        self.assert_check(False, [["r1"]], ["r1"], goal="b")
        self.assert_check(False, [["r1"], ["r2"]], ["r1", "r3"], goal="b")
        self.assert_check(False, [], [])

    def test_roads_twice_in_the_cut(self):
        self.assert_check(False, [["r1", "r3"]], ["r3", "r3"])
        self.assert_check(False, [["r1"], ["r2"]], ["r1", "r1"], goal="b")

    def test_strange_names(self):
        for name in ("x", "a", "car", ""):
            self.assert_check(False, [["r1", name]], ["r3"])
            self.assert_check(False, [["r1", "r3"], [name]], ["r3", "r1"])
            self.assert_check(False, [[name, "r3"]], ["r3"])
            self.assert_check(False, [["r1", "r3"]], [name])
            self.assert_check(False, [["r1", "r3"]], ["r3", name])
            self.assert_check(False, [["r1"], ["r2"]], ["r1", name], goal="b")
            self.assert_check(False, [], [name], start="c", goal="a")

    def test_random_routes_and_cuts(self):
        found = {True: 0, False: 0}
        for seed in range(200):
            chart = random_map(seed, places=3, roads=6, bars=3)
            chance = random.Random(seed)
            right = apart(chart, "car", "p0", "p1")
            for _ in range(12):
                routes = [list(route) for route in right.routes]
                cut = list(right.cut)
                for row in (*routes, cut):
                    if row and chance.random() < 0.4:
                        row[chance.randrange(len(row))] = chance.choice([*chart.road_names, "x"])
                    if chance.random() < 0.1:
                        row.insert(chance.randint(0, len(row)), chance.choice(chart.road_names))
                answer = check_apart(chart, "car", "p0", "p1", routes, cut)
                found[answer] += 1
                self.assertIs(answer, is_right(chart, "car", "p0", "p1", routes, cut))
                if answer:
                    # Point 45: no ways that are apart are more.
                    self.assertEqual(len(routes), len(right.routes))
        self.assertGreater(min(found.values()), 200)

    def test_nothing_changes(self):
        told = ("car", "a", "b", [["r1"], ["r2"]], ["r2", "r1"])
        one, other = self.assert_nothing_changes(check_apart, example(), *told)
        self.assertEqual((one, other), (True, True))


class VitalRoadsTest(AskingTest):
    def test_some_none_and_no_ways(self):
        self.assertEqual(vital_roads(example(), "car", "a", "c"), ["r3"])
        self.assertEqual(vital_roads(example(), "car", "a", "b"), [])
        self.assertIsNone(vital_roads(example(), "car", "c", "a"))
        self.assertEqual(vital_roads(example().with_hours("r1", []), "car", "a", "c"), ["r2", "r3"])
        self.assertIsNone(vital_roads(example().with_hours("r3", []), "car", "a", "c"))

    def test_order_of_the_roads_of_the_map(self):
        chart = chart_of(("r9", "a", "b"), ("r10", "b", "c"), ("r1", "c", "d"), ("q", "d", "e"), ("z", "e", "a"))
        self.assertEqual(vital_roads(chart, "car", "a", "e"), ["q", "r1", "r10", "r9"])

    def test_a_road_that_only_a_bar_makes_vital(self):
        roads = (("in", "a", "b"), ("out", "b", "c"), ("ring", "b", "b"))
        self.assertEqual(vital_roads(chart_of(*roads), "car", "a", "c"), ["in", "out"])
        self.assertEqual(vital_roads(chart_of(*roads, bars=[("in", "out")]), "car", "a", "c"), ["in", "out", "ring"])

    def test_like_the_question_without_each_road(self):
        for seed in range(100):
            chart = random_map(seed, places=4, roads=8, bars=6)
            for goal in ("p1", "p2", "p3"):
                expected = None
                if has_way(chart, "car", "p0", goal):
                    charts = {name: chart.without_road(name) for name in chart.road_names}
                    expected = [name for name in charts if not has_way(charts[name], "car", "p0", goal)]
                self.assertEqual(vital_roads(chart, "car", "p0", goal), expected)
                cut = apart(chart, "car", "p0", goal).cut
                if len(cut) == 1:
                    self.assertIn(cut[0], expected)
                else:
                    self.assertIn(expected, ([], None))

    def test_new_lists(self):
        self.assert_new_lists(vital_roads, example(), "car", "a", "c")


class ErrorsTest(AskingTest):
    def test_errors_in_their_order(self):
        for question, more in ((apart, ()), (vital_roads, ()), (check_apart, ([["x"]], ["y"]))):
            self.assert_unknown("x", question, example(), "x", "y", "y", *more)
            self.assert_unknown("y", question, example(), "car", "y", "z", *more)
            self.assert_unknown("y", question, example(), "car", "y", "y", *more)
            self.assert_unknown("z", question, example(), "car", "a", "z", *more)
            self.assert_invalid_question(question, example(), "car", "a", "a", *more)
        self.assert_invalid_question(check_apart, example(), "car", "c", "c", [], [])


if __name__ == "__main__":
    unittest.main()
