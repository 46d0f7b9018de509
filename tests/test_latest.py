"""The latest start and several moments: points 33 to 40, and the interface of waypapers/latest.py."""

import random
import unittest

from asking import AskingTest
from plain import full_map, least_places, random_map
from samples import town
from waypapers.latest import Latest, arrivals_from, latest_start, quickest, slowest
from waypapers.maps import Map
from waypapers.routes import earliest
from waypapers.travel import run

CAR = ["car"]


def single(hours, minutes=10):
    """Return a map with a road from a to b, and a place that nothing comes to."""
    return Map(day=100, kinds=["car", "bus"], places=["a", "b", "c"], roads=[("r1", "a", "b", minutes, CAR, hours)])


class LatestTest(AskingTest):
    def test_fields(self):
        roads = ["r"]
        found = Latest(3, roads, 9)
        roads.append("q")
        self.assertEqual((found.moment, found.roads, found.arrival), (3, ("r",), 9))


class LatestStartTest(AskingTest):
    def assert_latest(self, expected, chart, start, goal, by):
        found = latest_start(chart, "car", start, goal, by)
        if expected is None:
            self.assertIsNone(found)
        else:
            self.assertIsInstance(found, Latest)
            self.assertEqual((found.moment, found.roads, found.arrival), expected)

    def test_example_of_the_interface(self):
        chart = Map(day=100, kinds=["car"], places=["a", "b"], roads=[("r1", "a", "b", 10, ["car"], [(30, 60)])])
        found = latest_start(chart, "car", "a", "b", 120)
        self.assertEqual((found.moment, found.roads, found.arrival), (59, ("r1",), 69))

    def test_by_at_and_beside_the_borders_of_the_hours(self):
        chart = single([(30, 60)])
        table = {
            0: None, 10: None, 39: None, 40: (30, 40), 41: (31, 41), 68: (58, 68), 69: (59, 69), 70: (59, 69),
            139: (59, 69), 140: (130, 140), 169: (159, 169), 170: (159, 169), 99939: (99859, 99869),
            99940: (99930, 99940), 100000: (99959, 99969),
        }
        for by, row in table.items():
            with self.subTest(by=by):
                expected = None if row is None else (row[0], ("r1",), row[1])
                self.assert_latest(expected, chart, "a", "b", by)

    def test_by_with_hours_at_the_ends_of_the_day(self):
        table = {9: None, 10: (0, 10), 11: (0, 10), 108: (0, 10), 109: (99, 109), 110: (100, 110), 111: (100, 110)}
        for by, row in table.items():
            with self.subTest(by=by):
                expected = None if row is None else (row[0], ("r1",), row[1])
                self.assert_latest(expected, single([(0, 1), (99, 100)]), "a", "b", by)

    def test_by_without_hours(self):
        for hours in (None, [(0, 100)]):
            for by in (0, 1, 9):
                self.assert_latest(None, single(hours), "a", "b", by)
            for by in (10, 11, 99, 100, 109, 110, 111, 100000):
                self.assert_latest((by - 10, ("r1",), by), single(hours), "a", "b", by)

    def test_no_trip_in_time_though_a_route_exists(self):
        self.assertIsNotNone(earliest(single(None, 1000), "car", "a", "b", 0))
        self.assert_latest(None, single(None, 1000), "a", "b", 999)
        self.assert_latest((0, ("r1",), 1000), single(None, 1000), "a", "b", 1000)

    def test_no_route(self):
        for by in (0, 50, 100000):
            self.assert_latest(None, single([]), "a", "b", by)
            self.assert_latest(None, single(None), "b", "a", by)
            self.assert_latest(None, single(None), "a", "c", by)
            self.assertIsNone(latest_start(single(None), "bus", "a", "b", by))

    def test_the_start_as_the_goal(self):
        chart = single([(30, 60)]).with_road(("ring", "a", "a", 3, CAR, None))
        for by in (0, 1, 59, 60, 100, 100000):
            self.assert_latest((by, (), by), chart, "a", "a", by)
            self.assert_latest((by, (), by), chart, "c", "c", by)

    def test_the_arrival_may_be_before_by(self):
        roads = [("r1", "a", "b", 10, CAR, [(0, 50)]), ("r2", "b", "c", 5, CAR, [(70, 71)])]
        chart = Map(day=100, kinds=CAR, places=["a", "b", "c"], roads=roads)
        self.assert_latest((49, ("r1", "r2"), 75), chart, "a", "c", 100)
        self.assert_latest((49, ("r1", "r2"), 75), chart, "a", "c", 75)
        self.assert_latest(None, chart, "a", "c", 74)

    def test_the_road_depends_on_by(self):
        roads = [("fast", "a", "b", 5, CAR, [(20, 30)]), ("slow", "a", "b", 40, CAR, None)]
        chart = Map(day=100, kinds=CAR, places=["a", "b"], roads=roads)
        table = {
            24: None, 25: (20, "fast", 25), 34: (29, "fast", 34), 35: (29, "fast", 34), 69: (29, "fast", 34),
            70: (30, "slow", 70), 124: (84, "slow", 124), 125: (120, "fast", 125),
        }
        for by, row in table.items():
            with self.subTest(by=by):
                expected = None if row is None else (row[0], (row[1],), row[2])
                self.assert_latest(expected, chart, "a", "b", by)

    def test_like_trying_every_moment(self):
        for seed in range(40):
            chart = random_map(seed, places=4, roads=8, bars=5)
            chance = random.Random(seed)
            arrivals = [least_places(chart, "car", "p0", moment) for moment in range(131)]
            for goal in chart.places:
                by = chance.randint(0, 130)
                early = [moment for moment in range(by + 1) if arrivals[moment].get(goal, by + 1) <= by]
                found = latest_start(chart, "car", "p0", goal, by)
                # Point 34: every moment up to the latest start is early enough.
                self.assertEqual(early, [] if found is None else list(range(found.moment + 1)))
                if found is not None:
                    self.assertEqual(found.arrival, arrivals[found.moment][goal])
                    self.assert_drives(chart, goal, found)

    def assert_drives(self, chart, goal, found):
        driven = run(chart, "car", found.roads, "p0", found.moment)
        if driven:
            self.assertEqual((chart.road(driven[-1][0])[2], driven[-1][2]), (goal, found.arrival))
        else:
            self.assertEqual((goal, found.arrival), ("p0", found.moment))

    def test_full_maps(self):
        for seed in range(4):
            chart = full_map(seed)
            for goal in chart.places[::7]:
                found = latest_start(chart, "bus", "p5", goal, 100000)
                if found is not None:
                    self.assertLessEqual(found.arrival, 100000)
                    self.assertEqual(earliest(chart, "bus", "p5", goal, found.moment).arrival, found.arrival)
                    self.assertGreater(earliest(chart, "bus", "p5", goal, found.moment + 1).arrival, 100000)
                self.assertEqual(found is None, earliest(chart, "bus", "p5", goal, 0) is None)

    def test_unknown_names_in_their_order(self):
        self.assert_unknown("x", latest_start, single(None), "x", "y", "z", 0)
        self.assert_unknown("y", latest_start, single(None), "car", "y", "z", 0)
        self.assert_unknown("z", latest_start, single(None), "car", "a", "z", 0)
        self.assert_unknown("z", latest_start, single(None), "car", "z", "z", 0)

    def test_nothing_changes(self):
        one, other = self.assert_nothing_changes(latest_start, town(), "bus", "inn", "pier", 300)
        self.assertEqual(vars(one), vars(other))


class ArrivalsFromTest(AskingTest):
    def test_arrivals_in_the_order_of_the_moments(self):
        chart = single([(30, 60)])
        moments = [90, 0, 30, 59, 60, 0, 100000]
        self.assertEqual(arrivals_from(chart, "car", "a", "b", moments), [140, 40, 40, 69, 140, 40, 100040])
        self.assertEqual(arrivals_from(chart, "car", "a", "b", tuple(moments[:2])), [140, 40])

    def test_no_moments(self):
        self.assertEqual(arrivals_from(single([(30, 60)]), "car", "a", "b", []), [])
        self.assertEqual(arrivals_from(single([]), "car", "a", "a", []), [])
        self.assertIsNone(arrivals_from(single([]), "car", "a", "b", []))
        self.assertIsNone(arrivals_from(single(None), "car", "b", "a", []))

    def test_no_route(self):
        self.assertIsNone(arrivals_from(single([]), "car", "a", "b", [0, 7]))
        self.assertIsNone(arrivals_from(single(None), "bus", "a", "b", [0]))

    def test_the_start_as_the_goal(self):
        self.assertEqual(arrivals_from(single(None), "car", "b", "b", [5, 0, 5, 100000]), [5, 0, 5, 100000])

    def test_moments_days_apart(self):
        for seed in range(40):
            chart = random_map(seed, places=4, roads=8, bars=5)
            for goal in chart.places:
                first = arrivals_from(chart, "car", "p0", goal, list(range(60)))
                second = arrivals_from(chart, "car", "p0", goal, list(range(600, 660)))
                self.assertEqual(second, None if first is None else [arrival + 600 for arrival in first])
                # Point 36: a later start never arrives earlier.
                self.assertEqual(first, None if first is None else sorted(first))

    def test_like_plain_search(self):
        for seed in range(40):
            chart = random_map(seed, places=4, roads=8, bars=5)
            moments = random.Random(seed).sample(range(200), 5)
            for goal in chart.places:
                expected = [least_places(chart, "car", "p0", moment).get(goal) for moment in moments]
                if None in expected:
                    expected = None
                self.assertEqual(arrivals_from(chart, "car", "p0", goal, moments), expected)

    def test_new_lists(self):
        self.assert_new_lists(arrivals_from, single(None), "car", "a", "b", [3, 4])

    def test_the_moments_stay(self):
        self.assert_nothing_changes(arrivals_from, single(None), "car", "a", "b", [4, 3, 4])


class QuickestAndSlowestTest(AskingTest):
    def test_example_of_the_interface(self):
        chart = Map(day=100, kinds=["car"], places=["a", "b"], roads=[("r1", "a", "b", 10, ["car"], [(30, 60)])])
        self.assertEqual(slowest(chart, "car", "a", "b", [0, 40, 60, 90]), (60, 80))

    def test_waiting_at_the_start_counts(self):
        chart = single([(30, 60)])
        self.assertEqual(quickest(chart, "car", "a", "b", [0, 29, 60]), (29, 11))
        self.assertEqual(quickest(chart, "car", "a", "b", [0]), (0, 40))
        self.assertEqual(slowest(chart, "car", "a", "b", [29, 0, 30]), (0, 40))

    def test_the_first_one_of_ties(self):
        chart = single([(30, 60)])
        self.assertEqual(quickest(chart, "car", "a", "b", [90, 45, 30, 59, 130]), (45, 10))
        self.assertEqual(quickest(chart, "car", "a", "b", [130, 45, 30]), (130, 10))
        self.assertEqual(slowest(chart, "car", "a", "b", [45, 160, 60, 30]), (160, 80))
        self.assertEqual(slowest(chart, "car", "a", "b", [45, 60, 160, 30]), (60, 80))
        self.assertEqual(slowest(chart, "car", "a", "b", [33, 44, 55]), (33, 10))
        self.assertEqual(quickest(chart, "car", "a", "b", (7, 7)), (7, 33))

    def test_no_moments_or_no_route(self):
        for question in (quickest, slowest):
            self.assertIsNone(question(single(None), "car", "a", "b", []))
            self.assertIsNone(question(single([]), "car", "a", "b", [0, 5]))
            self.assertIsNone(question(single([]), "car", "a", "b", []))
            self.assertIsNone(question(single(None), "car", "b", "a", [0]))

    def test_the_start_as_the_goal(self):
        for question in (quickest, slowest):
            self.assertEqual(question(single(None), "car", "b", "b", [9, 0, 5]), (9, 0))

    def test_like_the_arrivals(self):
        for seed in range(40):
            chart = random_map(seed, places=4, roads=8, bars=5)
            moments = [random.Random(seed).randrange(300) for _ in range(30)]
            for goal in chart.places:
                arrivals = arrivals_from(chart, "car", "p0", goal, moments)
                if arrivals is None:
                    self.assertIsNone(quickest(chart, "car", "p0", goal, moments))
                    continue
                minutes = [arrival - moment for arrival, moment in zip(arrivals, moments)]
                for question, best in ((quickest, min(minutes)), (slowest, max(minutes))):
                    expected = (moments[minutes.index(best)], best)
                    self.assertEqual(question(chart, "car", "p0", goal, moments), expected)

    def test_nothing_changes(self):
        for question in (quickest, slowest):
            one, other = self.assert_nothing_changes(question, town(), "bus", "inn", "pier", [5, 3, 3])
            self.assertEqual(one, other)


class UnknownNamesTest(AskingTest):
    def test_in_their_order_also_without_moments(self):
        for question in (arrivals_from, quickest, slowest):
            for moments in ([], [0, 5]):
                self.assert_unknown("x", question, single(None), "x", "y", "z", moments)
                self.assert_unknown("y", question, single(None), "car", "y", "z", moments)
                self.assert_unknown("z", question, single(None), "car", "a", "z", moments)
                self.assert_unknown("r1", question, single(None), "car", "a", "r1", moments)


if __name__ == "__main__":
    unittest.main()
