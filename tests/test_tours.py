"""Tours: points 50 to 53, and the interface of waypapers/tours.py."""

import itertools
import random
import unittest

from asking import AskingTest
from plain import arrival_of, least_arrivals, random_map, roads_by_name, routes_up_to
from samples import town
from waypapers.maps import Map
from waypapers.routes import earliest
from waypapers.tours import Tour, tour
from waypapers.travel import run

CAR = ["car"]


def chart_of(*roads, bars=()):
    """Return a map with these roads and the places a to h."""
    return Map(day=60, kinds=["car", "bus"], places=list("abcdefgh"), roads=roads, bars=bars)


def example():
    """Return the map of the example of the interface."""
    roads = [
        ("r1", "a", "b", 5, ["car"], None), ("r2", "b", "a", 5, ["car"], None), ("r3", "a", "c", 1, ["car"], None),
    ]
    return Map(day=60, kinds=["car"], places=["a", "b", "c"], roads=roads)


def star():
    """Return a map with a road from a to each of the places b to h, and one back that takes as long."""
    roads = []
    for number, place in enumerate("bcdefgh"):
        minutes = number + 1
        roads += [(f"to{place}", "a", place, minutes, CAR, None), (f"from{place}", place, "a", minutes, CAR, None)]
    return chart_of(*roads)


def passed(chart, start, roads):
    """Return the places that a route passes, in their order."""
    return [start, *[chart.road(name)[2] for name in roads]]


def first_order(chart, start, stops, roads):
    """Return the stops in the order in which a route passes them first."""
    return tuple(sorted(stops, key=passed(chart, start, roads).index))


def least_tour(chart, kind, start, stops, moment, goal):
    """Return the least arrival of all tours, found by a plain search over all sets of stops, or None."""
    roads = roads_by_name(chart)
    found = least_arrivals(chart, kind, start, moment, stops)
    arrivals = []
    for (last, met), arrival in found.items():
        there = start if last is None else roads[last][2]
        if met == frozenset(stops) and goal in (None, there):
            arrivals.append(arrival)
    return min(arrivals, default=None)


class TourTest(AskingTest):
    def assert_tour(self, expected, chart, start, stops, moment=0, goal=None):
        """Compare roads, arrival and order of the tour."""
        found = tour(chart, "car", start, stops, moment, goal=goal)
        if expected is None:
            self.assertIsNone(found)
        else:
            self.assertIsInstance(found, Tour)
            self.assertEqual((found.roads, found.arrival, found.order), expected)

    def test_fields(self):
        roads, order = ["r"], ["b"]
        found = Tour(roads, 7, order)
        roads.append("q")
        order.append("c")
        self.assertEqual((found.roads, found.arrival, found.order), (("r",), 7, ("b",)))

    def test_example_of_the_interface(self):
        found = tour(example(), "car", "a", ["c", "b"], 0)
        self.assertEqual((found.arrival, found.order), (11, ("b", "c")))

    def test_no_stops(self):
        self.assert_tour(((), 7, ()), example(), "a", [], 7)
        self.assert_tour(((), 7, ()), example(), "c", (), 7)
        self.assert_tour(((), 7, ()), example(), "c", (), 7, goal="c")
        self.assert_tour((("r1",), 12, ()), example(), "a", [], 7, goal="b")
        self.assert_tour(None, example(), "c", [], 7, goal="b")

    def test_one_stop_is_an_earliest_arrival(self):
        for stops in (["b"], ("b",)):
            self.assert_tour((("r1",), 5, ("b",)), example(), "a", stops)
        self.assert_tour((("r2", "r3"), 6, ("c",)), example(), "b", ["c"])

    def test_six_stops_and_seven(self):
        found = tour(star(), "car", "a", list("bcdefg"), 0)
        # The stop that is the farthest from a comes last: the way back from it falls away.
        self.assertEqual((found.arrival, found.order[-1]), (2 * (1 + 2 + 3 + 4 + 5) + 6, "g"))
        self.assertEqual(sorted(found.order), list("bcdefg"))
        self.assertEqual(tour(star(), "car", "a", list("bcdefg"), 0, goal="a").arrival, 42)
        self.assertEqual(tour(star(), "car", "a", list("bcdefg"), 0, goal="b").order[-1], "b")
        self.assert_invalid_question(tour, star(), "car", "a", list("bcdefgh"), 0)
        self.assert_invalid_question(tour, star(), "car", "a", list("abcdefg"), 0, goal="a")

    def test_a_stop_twice(self):
        self.assert_invalid_question(tour, example(), "car", "a", ["b", "b"], 0)
        self.assert_invalid_question(tour, example(), "car", "a", ["a", "b", "a"], 0)
        self.assert_invalid_question(tour, example(), "car", "c", ["b", "c", "b"], 0, goal="c")

    def test_the_start_as_a_stop(self):
        self.assert_tour(((), 3, ("a",)), example(), "a", ["a"], 3)
        self.assert_tour((("r1",), 8, ("a", "b")), example(), "a", ["b", "a"], 3)
        self.assert_tour((("r1", "r2"), 13, ("a", "b")), example(), "a", ["b", "a"], 3, goal="a")
        self.assert_tour((("r2",), 5, ("b", "a")), example(), "b", ["a", "b"])

    def test_the_goal_as_a_stop(self):
        self.assert_tour((("r1",), 5, ("b",)), example(), "a", ["b"], goal="b")
        self.assert_tour((("r1", "r2", "r3"), 11, ("b", "c")), example(), "a", ["c", "b"], goal="c")
        self.assert_tour(None, example(), "a", ["c", "b"], goal="b")

    def test_the_start_as_the_goal(self):
        self.assert_tour(((), 3, ()), example(), "a", [], 3, goal="a")
        self.assert_tour(((), 3, ("a",)), example(), "a", ["a"], 3, goal="a")
        self.assert_tour((("r1", "r2"), 13, ("b",)), example(), "a", ["b"], 3, goal="a")
        self.assert_tour(None, example(), "a", ["c"], goal="a")

    def test_a_goal_that_is_passed_ahead_of_the_last_stop(self):
        roads = (("r1", "a", "b", 1, CAR, None), ("r2", "b", "c", 1, CAR, None), ("r3", "c", "b", 4, CAR, None))
        self.assert_tour((("r1", "r2", "r3"), 6, ("c",)), chart_of(*roads), "a", ["c"], goal="b")
        self.assert_tour((("r1", "r2", "r3"), 6, ("b", "c")), chart_of(*roads), "a", ["c", "b"], goal="b")
        self.assert_tour((("r1", "r2"), 2, ("b", "c")), chart_of(*roads), "a", ["c", "b"])
        self.assert_tour(None, chart_of(*roads).without_road("r3"), "a", ["c"], goal="b")

    def test_a_barred_turn_makes_the_order_another_one(self):
        roads = (
            ("ab", "a", "b", 1, CAR, None), ("bc", "b", "c", 1, CAR, None), ("ac", "a", "c", 2, CAR, None),
            ("cb", "c", "b", 2, CAR, None),
        )
        self.assert_tour((("ab", "bc"), 2, ("b", "c")), chart_of(*roads), "a", ["b", "c"])
        # A barred turn is barred at a stop as well.
        self.assert_tour((("ac", "cb"), 4, ("c", "b")), chart_of(*roads, bars=[("ab", "bc")]), "a", ["b", "c"])
        self.assert_tour(None, chart_of(*roads, bars=[("ab", "bc"), ("ac", "cb")]), "a", ["b", "c"])

    def test_a_barred_turn_makes_the_arrival_another_one(self):
        roads = (("ab", "a", "b", 1, CAR, None), ("bc", "b", "c", 1, CAR, None), ("slow", "a", "b", 9, CAR, None))
        chart = chart_of(*roads, bars=[("ab", "bc")])
        self.assert_tour((("ab",), 1, ("b",)), chart, "a", ["b"])
        self.assert_tour((("slow", "bc"), 10, ("b", "c")), chart, "a", ["c", "b"])
        self.assert_tour((("slow", "bc"), 10, ("b",)), chart, "a", ["b"], goal="c")

    def test_a_tour_that_passes_places_and_roads_twice(self):
        self.assert_tour((("r1", "r2", "r3"), 11, ("b", "c")), example(), "a", ["b", "c"])
        # Both stops lie at the ends of blind alleys behind the one road from a, so the road is driven twice.
        roads = (
            ("in", "a", "b", 1, CAR, None), ("c1", "b", "c", 1, CAR, None), ("d1", "b", "d", 2, CAR, None),
            ("c2", "c", "a", 1, CAR, None), ("d2", "d", "a", 3, CAR, None),
        )
        found = tour(chart_of(*roads), "car", "a", ["c", "d"], 0)
        self.assertEqual((found.roads, found.arrival), (("in", "c1", "c2", "in", "d1"), 6))
        self.assertEqual(tour(chart_of(*roads), "car", "a", ["c", "d"], 0, goal="a").arrival, 9)

    def test_hours_decide_about_the_order(self):
        roads = [
            ("ab", "a", "b", 1, CAR, [(20, 30)]), ("ba", "b", "a", 1, CAR, None),
            ("ac", "a", "c", 1, CAR, None), ("ca", "c", "a", 1, CAR, None),
        ]
        self.assert_tour((("ac", "ca", "ab"), 21, ("c", "b")), chart_of(*roads), "a", ["b", "c"], 0)
        self.assert_tour((("ab", "ba", "ac"), 28, ("b", "c")), chart_of(*roads), "a", ["b", "c"], 25, goal="c")
        self.assert_tour((("ab", "ba", "ac"), 32, ("b", "c")), chart_of(*roads), "a", ["b", "c"], 29)

    def test_no_tour(self):
        self.assert_tour(None, example(), "c", ["b"])
        self.assert_tour(None, example(), "a", ["b", "c"], goal="a")
        self.assertIsNone(tour(star(), "bus", "a", ["b"], 0))
        self.assertIsNone(tour(chart_of(), "car", "a", ["a", "b"], 0))

    def test_stops_as_a_tuple_stay_as_they_are(self):
        for stops in (["c", "b"], ("c", "b")):
            one, other = self.assert_nothing_changes(tour, example(), "car", "a", stops, 0)
            self.assertEqual(vars(one), vars(other))

    def test_errors_in_their_order(self):
        twice, many = ["b", "x", "b", "y"], [*"abcdefgh", "x"]
        for stops in (twice, many):
            self.assert_unknown("v", tour, star(), "v", "w", stops, 0, goal="z")
            self.assert_unknown("w", tour, star(), "car", "w", stops, 0, goal="z")
            self.assert_unknown("x", tour, star(), "car", "a", stops, 0, goal="z")
        self.assert_unknown("z", tour, star(), "car", "a", ["b", "b"], 0, goal="z")
        self.assert_unknown("z", tour, star(), "car", "a", list("abcdefgh"), 0, goal="z")
        self.assert_unknown("z", tour, star(), "car", "a", [], 0, goal="z")
        self.assert_invalid_question(tour, star(), "car", "a", ["b", "b"], 0, goal="h")
        self.assert_invalid_question(tour, star(), "car", "a", list("abcdefgh"), 0)

    def test_the_goal_is_passed_by_its_name(self):
        with self.assertRaises(TypeError):
            tour(example(), "car", "a", ["b"], 0, "c")

    def test_without_stops_like_earliest(self):
        for seed in range(40):
            chart = random_map(seed, places=4, roads=8, bars=6)
            for goal in chart.places:
                route = earliest(chart, "car", "p0", goal, seed)
                for stops in ([], [goal]):
                    found = tour(chart, "car", "p0", stops, seed, goal=goal)
                    self.assertEqual(found and found.arrival, route and route.arrival)

    def assert_right_tour(self, chart, start, stops, moment, goal):
        found = tour(chart, "car", start, stops, moment, goal=goal)
        least = least_tour(chart, "car", start, stops, moment, goal)
        if least is None:
            self.assertIsNone(found)
            return
        driven = run(chart, "car", found.roads, start, moment)
        self.assertEqual((found.arrival, driven[-1][2] if driven else moment), (least, least))
        places = passed(chart, start, found.roads)
        self.assertTrue(set(stops) <= set(places))
        self.assertIn(goal, (None, places[-1]))
        self.assertEqual(found.order, first_order(chart, start, stops, found.roads))
        self.assertIsInstance(found.roads, tuple)

    def test_like_a_plain_search_over_all_sets_of_stops(self):
        for seed in range(120):
            chance = random.Random(seed)
            chart = random_map(seed, places=5, roads=12, bars=10)
            stops = chance.sample(chart.places, chance.randint(0, 4))
            for goal in (None, "p0", "p3"):
                with self.subTest(seed=seed, goal=goal):
                    self.assert_right_tour(chart, "p0", stops, chance.choice([0, 59, 77, 100000]), goal)

    def test_larger_maps_with_six_stops(self):
        for seed in (0, 2, 5):
            chart = random_map(seed, places=9, roads=40, bars=40, day=240, minutes=300)
            for goal in (None, "p8"):
                self.assert_right_tour(chart, "p0", chart.places[1:7], 700, goal)

    def test_no_route_of_few_roads_is_an_earlier_tour(self):
        for seed in range(30):
            chart = random_map(seed, places=3, roads=5, bars=3)
            routes = routes_up_to(chart, "car", "p0", 6)
            for stops in itertools.chain.from_iterable(itertools.combinations(chart.places, many) for many in range(4)):
                found = tour(chart, "car", "p0", stops, 20)
                met = [route for route in routes if set(stops) <= set(passed(chart, "p0", route))]
                least = min([arrival_of(chart, route, 20) for route in met], default=None)
                if least is not None:
                    self.assertLessEqual(found.arrival, least)
                    if len(found.roads) <= 6:
                        self.assertEqual(found.arrival, least)

    def test_nothing_changes(self):
        one, other = self.assert_nothing_changes(tour, town(), "bus", "inn", ["pier", "mill"], 3)
        self.assertEqual(vars(one), vars(other))


if __name__ == "__main__":
    unittest.main()
