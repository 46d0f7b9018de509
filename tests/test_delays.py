"""Delays: points 48 and 49, and the interface of waypapers/delays.py."""

import unittest

from asking import AskingTest
from plain import full_map, least_places, random_map
from samples import town
from waypapers.delays import delays, worst_delay
from waypapers.maps import Map

CAR = ["car"]


def chart_of(*roads, bars=()):
    """Return a map with these roads and the places a to d."""
    return Map(day=60, kinds=["car", "bus"], places=["a", "b", "c", "d"], roads=roads, bars=bars)


def example():
    """Return the map of the example of the interface."""
    roads = [
        ("r1", "a", "b", 5, ["car"], None), ("r2", "a", "b", 9, ["car"], None), ("r3", "b", "c", 1, ["car"], None),
    ]
    return Map(day=60, kinds=["car"], places=["a", "b", "c"], roads=roads)


class DelaysTest(AskingTest):
    def test_example_of_the_interface(self):
        self.assertEqual(delays(example(), "car", "a", "c", 0), [("r1", 4), ("r3", None)])
        self.assertEqual(delays(example(), "car", "a", "b", 7), [("r1", 4)])

    def test_two_routes_of_the_same_arrival(self):
        chart = example().with_road(("r2", "a", "b", 5, CAR, None))
        self.assertEqual(delays(chart, "car", "a", "b", 0), [])
        self.assertEqual(delays(chart, "car", "a", "c", 0), [("r3", None)])

    def test_a_later_road_that_waits_takes_the_delay_away(self):
        chart = example().with_hours("r3", [(20, 40)])
        self.assertEqual(delays(chart, "car", "a", "c", 0), [("r3", None)])
        self.assertEqual(delays(chart, "car", "a", "c", 34), [("r1", 41), ("r3", None)])

    def test_the_bars_of_the_road_go_with_it(self):
        # Behind r1 the road r3 is barred, so the trip takes r2. Without r2 it takes the way round.
        roads = (
            ("r1", "a", "b", 1, CAR, None), ("r2", "a", "b", 3, CAR, None), ("r3", "b", "c", 1, CAR, None),
            ("r4", "b", "b", 9, CAR, None),
        )
        chart = chart_of(*roads, bars=[("r1", "r3")])
        self.assertEqual(delays(chart, "car", "a", "c", 0), [("r2", 7), ("r3", None)])
        self.assertEqual(delays(chart, "car", "a", "b", 0), [("r1", 2)])
        rows = [("r1", 2), ("r3", None), ("r4", None)]
        self.assertEqual(delays(chart.with_bar("r2", "r3"), "car", "a", "c", 0), rows)

    def test_a_trip_that_does_not_arrive(self):
        self.assertIsNone(delays(example(), "car", "c", "a", 0))
        self.assertIsNone(delays(example().with_bar("r1", "r3").with_bar("r2", "r3"), "car", "a", "c", 0))
        self.assertIsNone(worst_delay(example(), "car", "c", "a", 0))

    def test_a_trip_to_its_own_start(self):
        chart = chart_of(("ring", "a", "a", 1, CAR, None))
        for place in ("a", "d"):
            self.assertEqual(delays(chart, "car", place, place, 5), [])
            self.assertIsNone(worst_delay(chart, "car", place, place, 5))

    def test_order_of_the_roads_of_the_map(self):
        roads = (("r9", "a", "b", 1, CAR, None), ("r10", "b", "c", 1, CAR, None), ("q", "c", "d", 1, CAR, None))
        self.assertEqual(delays(chart_of(*roads), "car", "a", "d", 0), [("q", None), ("r10", None), ("r9", None)])

    def test_like_the_question_without_each_road(self):
        for seed in range(80):
            chart = random_map(seed, places=4, roads=8, bars=6)
            self.assert_like_without_each_road(chart, "car", "p0", seed)

    def test_full_maps(self):
        for seed in range(2):
            self.assert_like_without_each_road(full_map(seed), "bus", "p3", 1000 + seed)

    def assert_like_without_each_road(self, chart, kind, start, moment):
        arrivals = least_places(chart, kind, start, moment)
        without = {name: least_places(chart.without_road(name), kind, start, moment) for name in chart.road_names}
        for goal in chart.places:
            rows = None
            if goal in arrivals:
                rows = []
                for name in chart.road_names:
                    later = without[name].get(goal)
                    if later != arrivals[goal]:
                        rows.append((name, None if later is None else later - arrivals[goal]))
            self.assertEqual(delays(chart, kind, start, goal, moment), rows)
            self.assertEqual(worst_delay(chart, kind, start, goal, moment), self.worst_of(rows))

    def worst_of(self, rows):
        """Return the first row with the worst delay."""
        if not rows:
            return None
        worth = [float("inf") if delay is None else delay for _, delay in rows]
        return rows[worth.index(max(worth))]

    def test_new_lists(self):
        self.assert_new_lists(delays, example(), "car", "a", "c", 0)


class WorstDelayTest(AskingTest):
    def test_none_ahead_of_all_numbers(self):
        self.assertEqual(worst_delay(example(), "car", "a", "c", 0), ("r3", None))
        roads = (("r1", "a", "b", 1, CAR, None), ("r2", "b", "c", 1, CAR, None), ("r3", "b", "c", 900, CAR, None))
        self.assertEqual(delays(chart_of(*roads), "car", "a", "c", 0), [("r1", None), ("r2", 899)])
        self.assertEqual(worst_delay(chart_of(*roads), "car", "a", "c", 0), ("r1", None))

    def test_the_greatest_number(self):
        self.assertEqual(worst_delay(example(), "car", "a", "b", 0), ("r1", 4))
        roads = (
            ("r1", "a", "b", 1, CAR, None), ("r2", "a", "b", 4, CAR, None), ("r3", "b", "c", 1, CAR, None),
            ("r4", "b", "c", 9, CAR, None), ("r5", "c", "d", 1, CAR, None), ("r6", "c", "d", 6, CAR, None),
        )
        self.assertEqual(delays(chart_of(*roads), "car", "a", "d", 0), [("r1", 3), ("r3", 8), ("r5", 5)])
        self.assertEqual(worst_delay(chart_of(*roads), "car", "a", "d", 0), ("r3", 8))

    def test_the_first_one_of_ties(self):
        roads = (("r2", "a", "b", 1, CAR, None), ("r1", "b", "c", 1, CAR, None))
        self.assertEqual(worst_delay(chart_of(*roads), "car", "a", "c", 0), ("r1", None))
        roads += (("s1", "a", "b", 5, CAR, None), ("s2", "b", "c", 5, CAR, None))
        self.assertEqual(delays(chart_of(*roads), "car", "a", "c", 0), [("r1", 4), ("r2", 4)])
        self.assertEqual(worst_delay(chart_of(*roads), "car", "a", "c", 0), ("r1", 4))

    def test_no_delays(self):
        chart = example().with_road(("r2", "a", "b", 5, CAR, None))
        self.assertIsNone(worst_delay(chart, "car", "a", "b", 0))


class ErrorsTest(AskingTest):
    def test_unknown_names_in_their_order(self):
        for question in (delays, worst_delay):
            self.assert_unknown("x", question, example(), "x", "y", "z", 0)
            self.assert_unknown("y", question, example(), "car", "y", "z", 0)
            self.assert_unknown("z", question, example(), "car", "a", "z", 0)

    def test_nothing_changes(self):
        for question in (delays, worst_delay):
            one, other = self.assert_nothing_changes(question, town(), "bus", "inn", "pier", 3)
            self.assertEqual(one, other)


if __name__ == "__main__":
    unittest.main()
