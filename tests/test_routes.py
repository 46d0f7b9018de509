"""Earliest arrivals: points 21 to 26, and the interface of waypapers/routes.py."""

import random
import unittest

from asking import AskingTest
from plain import arrival_of, full_map, least_labels, least_places, random_map, routes_up_to
from samples import town
from waypapers.maps import Map
from waypapers.routes import Route, earliest, labels, places_from
from waypapers.travel import run

CAR = ["car"]


def chart_of(*roads, bars=(), day=60, kinds=("car", "bus")):
    """Return a map with these roads and the places a to f."""
    return Map(day=day, kinds=kinds, places=["a", "b", "c", "d", "e", "f"], roads=roads, bars=bars)


def two_ways(bars):
    """Return a map on which the road low is the earliest one to b, and only the road on goes on to c."""
    roads = (("low", "a", "b", 5, CAR, None), ("slow", "a", "b", 20, CAR, None), ("on", "b", "c", 3, CAR, None))
    return chart_of(*roads, bars=bars)


class RouteTest(AskingTest):
    def test_fields(self):
        route = Route(("r", "q"), 7)
        self.assertEqual((route.roads, route.arrival), (("r", "q"), 7))

    def test_roads_are_a_copy(self):
        roads = ["r"]
        route = Route(roads, 7)
        roads.append("q")
        self.assertEqual(route.roads, ("r",))

    def test_nothing_is_checked(self):
        self.assertEqual(Route([], -1).arrival, -1)
        self.assertEqual(Route(["no such road"], None).roads, ("no such road",))


class EarliestTest(AskingTest):
    def assert_earliest(self, chart, kind, start, goal, moment, roads, arrival):
        found = earliest(chart, kind, start, goal, moment)
        self.assertIsInstance(found, Route)
        self.assertEqual((found.roads, found.arrival), (roads, arrival))

    def test_example_of_the_interface(self):
        roads = [("ferry", "a", "b", 20, ["car"], [(30, 40)]), ("lane", "b", "c", 5, ["car"], None)]
        coast = Map(day=60, places=["a", "b", "c"], kinds=["car"], roads=roads, bars=[("ferry", "lane")])
        self.assertEqual(earliest(coast, "car", "a", "b", 0).arrival, 50)
        self.assertIsNone(earliest(coast, "car", "a", "c", 0))

    def test_the_road_of_the_earliest_arrival_is_barred_behind(self):
        self.assert_earliest(two_ways([]), "car", "a", "c", 0, ("low", "on"), 8)
        barred = two_ways([("low", "on")])
        self.assert_earliest(barred, "car", "a", "b", 0, ("low",), 5)
        self.assert_earliest(barred, "car", "a", "c", 0, ("slow", "on"), 23)
        self.assertIsNone(earliest(two_ways([("low", "on"), ("slow", "on")]), "car", "a", "c", 0))

    def test_a_later_arrival_goes_on_earlier_twice(self):
        roads = [
            ("r1", "a", "b", 1, CAR, None), ("r2", "a", "b", 2, CAR, None), ("r3", "b", "c", 1, CAR, None),
            ("r4", "b", "c", 9, CAR, None), ("r5", "c", "d", 1, CAR, None),
        ]
        self.assert_earliest(chart_of(*roads, bars=[("r1", "r3")]), "car", "a", "d", 0, ("r2", "r3", "r5"), 4)
        bars = [("r1", "r3"), ("r3", "r5")]
        self.assert_earliest(chart_of(*roads, bars=bars), "car", "a", "d", 0, ("r1", "r4", "r5"), 11)
        places = [("a", 0), ("b", 1), ("c", 3), ("d", 11)]
        self.assertEqual(places_from(chart_of(*roads, bars=bars), "car", "a", 0), places)

    def test_a_route_that_passes_a_place_twice(self):
        # The turn from in to out is barred, so the trip turns on the ring.
        roads = (("in", "a", "b", 1, CAR, None), ("out", "b", "c", 1, CAR, None), ("ring", "b", "b", 7, CAR, None))
        self.assert_earliest(chart_of(*roads, bars=[("in", "out")]), "car", "a", "c", 0, ("in", "ring", "out"), 9)

    def test_a_route_that_passes_a_place_three_times(self):
        # The road out is barred behind in and behind half, so the trip has to come to b over the road back.
        roads = (
            ("in", "a", "b", 1, CAR, None), ("bend", "b", "c", 1, CAR, None), ("half", "c", "b", 1, CAR, None),
            ("wind", "b", "d", 1, CAR, None), ("back", "d", "b", 1, CAR, None), ("out", "b", "e", 1, CAR, None),
        )
        bars = [("in", "out"), ("half", "out"), ("in", "wind")]
        expected = ("in", "bend", "half", "wind", "back", "out")
        self.assert_earliest(chart_of(*roads, bars=bars), "car", "a", "e", 0, expected, 6)
        bars = [*bars, ("back", "out")]
        self.assertIsNone(earliest(chart_of(*roads, bars=bars), "car", "a", "e", 0))

    def test_a_road_is_never_needed_twice_but_may_be_driven_twice(self):
        chart = two_ways([])
        ring = chart.with_road(("ring", "a", "a", 2, CAR, None))
        self.assertEqual(run(ring, "car", ["ring", "ring", "low"], "a", 0)[-1], ("low", 4, 9))
        self.assert_earliest(ring, "car", "a", "b", 0, ("low",), 5)
        self.assertEqual(labels(ring, "car", "a", 0), [("low", 5), ("on", 8), ("ring", 2), ("slow", 20)])

    def test_roads_side_by_side_with_hours(self):
        chart = chart_of(("r1", "a", "b", 30, CAR, None), ("r2", "a", "b", 5, CAR, [(20, 30)]))
        arrivals = {0: 25, 19: 25, 20: 25, 29: 34, 30: 60, 49: 79, 50: 80, 51: 81, 60: 85, 80: 85}
        for moment, arrival in arrivals.items():
            with self.subTest(moment=moment):
                self.assertEqual(earliest(chart, "car", "a", "b", moment).arrival, arrival)

    def test_hours(self):
        table = {
            None: {0: 5, 59: 64, 60: 65, 100000: 100005},
            ((0, 60),): {0: 5, 59: 64, 60: 65, 100000: 100005},
            ((10, 20), (30, 31)): {0: 15, 10: 15, 19: 24, 20: 35, 30: 35, 31: 75, 59: 75, 70: 75, 99980: 99995},
            ((0, 1),): {0: 5, 1: 65, 60: 65, 61: 125, 100000: 100025},
        }
        for hours, arrivals in table.items():
            chart = chart_of(("r", "a", "b", 5, CAR, hours))
            for moment, arrival in arrivals.items():
                with self.subTest(hours=hours, moment=moment):
                    self.assert_earliest(chart, "car", "a", "b", moment, ("r",), arrival)

    def test_roads_that_cannot_be_used(self):
        never = chart_of(("r", "a", "b", 5, CAR, []), ("q", "b", "c", 5, CAR, None))
        strange = chart_of(("r", "a", "b", 5, ["bus"], None), ("q", "b", "c", 5, CAR, None))
        nobody = chart_of(("r", "a", "b", 5, [], None), ("q", "b", "c", 5, CAR, None))
        for chart in (never, strange, nobody):
            self.assertIsNone(earliest(chart, "car", "a", "b", 0))
            self.assertIsNone(earliest(chart, "car", "a", "c", 0))
            self.assertEqual(labels(chart, "car", "a", 0), [])
            self.assertEqual(labels(chart, "car", "b", 3), [("q", 8)])
        self.assertEqual(earliest(strange, "bus", "a", "b", 0).arrival, 5)

    def test_a_place_that_cannot_be_come_to(self):
        self.assertIsNone(earliest(two_ways([]), "car", "b", "a", 0))
        self.assertIsNone(earliest(two_ways([]), "car", "a", "f", 0))
        self.assertIsNone(earliest(Map(day=1, kinds=CAR, places=["a", "b"]), "car", "a", "b", 100000))

    def test_the_start_as_the_goal(self):
        chart = chart_of(("ring", "a", "a", 2, CAR, None), ("r", "a", "b", 1, CAR, None), ("q", "b", "a", 1, CAR, None))
        for moment in (0, 7, 100000):
            self.assert_earliest(chart, "car", "a", "a", moment, (), moment)
            self.assert_earliest(chart, "car", "f", "f", moment, (), moment)
        self.assert_earliest(chart, "bus", "a", "a", 3, (), 3)

    def test_unknown_names_in_their_order(self):
        chart = two_ways([])
        self.assert_unknown("x", earliest, chart, "x", "y", "z", 0)
        self.assert_unknown("y", earliest, chart, "car", "y", "z", 0)
        self.assert_unknown("z", earliest, chart, "car", "a", "z", 0)
        self.assert_unknown("z", earliest, chart, "car", "z", "z", 0)
        # A name of another sort is no help.
        self.assert_unknown("a", earliest, chart, "a", "a", "b", 0)
        self.assert_unknown("low", earliest, chart, "car", "a", "low", 0)

    def test_nothing_changes(self):
        one, other = self.assert_nothing_changes(earliest, town(), "foot", "inn", "pier", 3)
        self.assertEqual((one and one.roads, one and one.arrival), (other and other.roads, other and other.arrival))


class LabelsTest(AskingTest):
    def test_labels_of_all_roads_in_order(self):
        # On the way to the pier only the ferry goes on, which is barred behind the lane: first round the ring.
        self.assertEqual(
            labels(town(), "bus", "inn", 3), [("back", 67), ("ferry", 30), ("lane", 8), ("ring", 9)],
        )
        self.assertEqual(labels(town(), "foot", "inn", 3), [("lane", 8), ("ring", 9)])
        self.assertEqual(labels(town(), "bus", "lone", 3), [])

    def test_roads_back_to_the_start_have_labels(self):
        chart = chart_of(("r", "a", "b", 4, CAR, None), ("q", "b", "a", 6, CAR, None), ("s", "a", "a", 9, CAR, None))
        self.assertEqual(labels(chart, "car", "a", 1), [("q", 11), ("r", 5), ("s", 10)])

    def test_order_of_names(self):
        roads = [(name, "a", "b", 4, CAR, None) for name in ("r10", "r2", "r1", "q9", "s")]
        self.assertEqual([name for name, _ in labels(chart_of(*roads), "car", "a", 0)], ["q9", "r1", "r10", "r2", "s"])

    def test_unknown_names_in_their_order(self):
        for question in (labels, places_from):
            for chart in (two_ways([]), chart_of()):
                self.assert_unknown("x", question, chart, "x", "y", 0)
                self.assert_unknown("x", question, chart, "x", "a", 0)
                self.assert_unknown("y", question, chart, "car", "y", 0)

    def test_new_lists(self):
        for question in (labels, places_from):
            self.assert_new_lists(question, town(), "bus", "inn", 3)


class PlacesFromTest(AskingTest):
    def test_places_in_order(self):
        self.assertEqual(places_from(town(), "bus", "inn", 3), [("inn", 3), ("mill", 8), ("pier", 30)])
        self.assertEqual(places_from(town(), "bus", "lone", 100000), [("lone", 100000)])

    def test_the_start_keeps_the_moment_whatever_leads_back(self):
        chart = chart_of(("r", "a", "b", 1, CAR, None), ("q", "b", "a", 1, CAR, None), ("s", "a", "a", 1, CAR, None))
        for moment in (0, 5, 100000):
            self.assertEqual(places_from(chart, "car", "a", moment), [("a", moment), ("b", moment + 1)])


class PlainSearchTest(AskingTest):
    """The answers beside those of plain searches."""

    def assert_like_plain_search(self, chart, kind, start, moment):
        told = labels(chart, kind, start, moment)
        self.assertEqual(told, sorted(least_labels(chart, kind, start, moment).items()))
        places = least_places(chart, kind, start, moment)
        self.assertEqual(places_from(chart, kind, start, moment), sorted(places.items()))
        for goal in chart.places:
            self.assert_right_route(chart, kind, start, goal, moment, places.get(goal))

    def assert_right_route(self, chart, kind, start, goal, moment, arrival):
        found = earliest(chart, kind, start, goal, moment)
        if arrival is None:
            self.assertIsNone(found)
            return
        self.assertEqual(found.arrival, arrival)
        self.assertIsInstance(found.roads, tuple)
        driven = run(chart, kind, found.roads, start, moment)
        if start == goal:
            self.assertEqual((driven, arrival), ([], moment))
        else:
            self.assertEqual((driven[-1][2], chart.road(driven[-1][0])[2]), (arrival, goal))

    def test_small_maps(self):
        for seed in range(150):
            chart = random_map(seed, places=4, roads=9, bars=8)
            moment = random.Random(seed).choice([0, 1, 30, 59, 60, 61, 999, 100000])
            with self.subTest(seed=seed):
                self.assert_like_plain_search(chart, "car", "p0", moment)

    def test_full_maps(self):
        for seed in range(12):
            chart = full_map(seed)
            self.assertEqual((len(chart.places), len(chart.roads), len(chart.bars)), (30, 60, 40))
            for start in ("p0", "p17"):
                with self.subTest(seed=seed, start=start):
                    self.assert_like_plain_search(chart, "bus", start, 137 * seed)

    def test_full_maps_with_few_places(self):
        for seed in range(4):
            chart = random_map(seed, places=5, roads=60, bars=40, day=1440, minutes=1000)
            with self.subTest(seed=seed):
                self.assert_like_plain_search(chart, "car", "p1", 1439)

    def test_no_route_of_few_roads_arrives_earlier(self):
        for seed in range(40):
            chart = random_map(seed, places=3, roads=5, bars=4)
            for moment in (0, 47):
                least = {}
                for route in routes_up_to(chart, "car", "p0", 6):
                    if route:
                        arrival = arrival_of(chart, route, moment)
                        least[route[-1]] = min(arrival, least.get(route[-1], arrival))
                with self.subTest(seed=seed, moment=moment):
                    # With five roads, no road needs more than five of them.
                    self.assertEqual(dict(labels(chart, "car", "p0", moment)), least)


class OtherMomentsAndMapsTest(AskingTest):
    """Points 25 and 26."""

    def test_starting_later(self):
        for seed in range(60):
            chart = random_map(seed, places=4, roads=9, bars=5)
            row = [dict(labels(chart, "car", "p0", moment)) for moment in range(0, 65, 4)]
            for early, late in zip(row, row[1:]):
                self.assertEqual(list(early), list(late))
                self.assertTrue(all(early[name] <= late[name] for name in early))

    def test_starting_days_later(self):
        for seed in range(60):
            chart = random_map(seed, places=4, roads=9, bars=5)
            for moment, days in ((0, 1), (17, 3), (59, 1000)):
                later = [(name, arrival + 60 * days) for name, arrival in labels(chart, "car", "p0", moment)]
                self.assertEqual(labels(chart, "car", "p0", moment + 60 * days), later)

    def assert_not_later(self, chart, eased):
        before = dict(labels(chart, "car", "p0", 13))
        behind = dict(labels(eased, "car", "p0", 13))
        self.assertTrue(all(name in behind and behind[name] <= before[name] for name in before))

    def test_maps_with_less_in_the_way(self):
        for seed in range(40):
            chart = random_map(seed, places=4, roads=9, bars=5)
            for bar in chart.bars:
                self.assert_not_later(chart, chart.without_bar(*bar))
            for road in chart.roads:
                self.assert_not_later(chart, chart.with_hours(road[0], None))
                self.assert_not_later(chart, chart.with_road((*road[:3], 1, *road[4:])))
                self.assert_not_later(chart, chart.with_road((*road[:4], ["bus", "car"], road[5])))
            self.assert_not_later(chart, chart.with_road(("new", "p1", "p2", 1, ["car"], None)))


if __name__ == "__main__":
    unittest.main()
